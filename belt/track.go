package belt

import (
	"slices"

	"sightbench/api"
)

// NewTrack returns a track with a belt, and without parts.
func NewTrack(b api.Belt) (api.Track, api.Errno) {
	if e := CheckBelt(b); e != api.OK {
		return api.Track{}, e
	}
	return api.Track{Belt: b}, api.OK
}

// CheckTrack returns an error unless a track is valid.
func CheckTrack(t api.Track) api.Errno {
	if e := CheckBelt(t.Belt); e != api.OK {
		return e
	}
	if !isCount(t.Count) || !isCount(t.Next) || len(t.Parts) > api.MaxQueue {
		return api.ErrBad
	}
	gate := windowOf(t.Belt, t.Belt.Gate)
	id, at := -1, -1
	for _, p := range t.Parts {
		if !within(p.Id, id+1, t.Next-1) || !within(p.At, at+1, t.Count) || !isPart(p, gate.after(p.At), t.Count) {
			return api.ErrBad
		}
		id, at = p.Id, p.At
	}
	return api.OK
}

// Sense returns the track in which a part passes the sensor, and its number.
func Sense(t api.Track) (api.Track, int, api.Errno) {
	if e := CheckTrack(t); e != api.OK {
		return api.Track{}, 0, e
	}
	n := len(t.Parts)
	if n > 0 && t.Parts[n-1].At == t.Count {
		return api.Track{}, 0, api.ErrOrder
	}
	if n == api.MaxQueue || t.Next == api.MaxCount {
		return api.Track{}, 0, api.ErrFull
	}
	p := api.Seen{Id: t.Next, At: t.Count}
	// The list ends where its memory does, so that the part comes into new memory.
	t.Parts = append(t.Parts[:n:n], p)
	t.Next++
	return t, p.Id, api.OK
}

// Tell returns the track in which a part has a verdict.
func Tell(t api.Track, id int, verdict uint8) (api.Track, api.Errno) {
	if e := CheckTrack(t); e != api.OK {
		return api.Track{}, e
	}
	if verdict < api.Pass || verdict > api.Undecided {
		return api.Track{}, api.ErrArg
	}
	i := slices.IndexFunc(t.Parts, func(p api.Seen) bool { return p.Id == id })
	if i < 0 {
		return api.Track{}, api.ErrNone
	}
	gate := windowOf(t.Belt, t.Belt.Gate).after(t.Parts[i].At)
	if t.Parts[i].Verdict != 0 || t.Count >= gate.first {
		return api.Track{}, api.ErrOrder
	}
	t.Parts = slices.Clone(t.Parts)
	t.Parts[i].Verdict = verdict
	return t, api.OK
}

// isPart reports whether a part may be on a track after so many counts, for its window of the gate.
func isPart(p api.Seen, gate window, count int) bool {
	return gate.final > count && p.Verdict <= api.Undecided && !(p.Hit && gate.first > count)
}

// isCount reports whether n may be a number of counts, or of parts.
func isCount(n int) bool { return within(n, 0, api.MaxCount) }
