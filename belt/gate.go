package belt

import (
	"slices"

	"sightbench/api"
)

// Open returns whether the gate is open during the next count.
func Open(t api.Track) (bool, api.Errno) {
	if e := CheckTrack(t); e != api.OK {
		return false, e
	}
	return isOpen(t.Parts, windowOf(t.Belt, t.Belt.Gate), t.Count+1), api.OK
}

// Advance returns the track after n counts, and the fates of the parts that left.
func Advance(t api.Track, n int) (api.Track, []api.Fate, api.Errno) {
	if e := CheckTrack(t); e != api.OK {
		return api.Track{}, nil, e
	}
	if !within(n, 1, api.MaxGo) {
		return api.Track{}, nil, api.ErrArg
	}
	end := t.Count + n
	if end > api.MaxCount {
		return api.Track{}, nil, api.ErrFull
	}
	gate := windowOf(t.Belt, t.Belt.Gate)
	t.Parts = slices.Clone(t.Parts)
	var fates []api.Fate
counts:
	for {
		switch {
		case len(t.Parts) == 0:
			// Nothing happens on an empty belt.
			t.Count = end
			break counts
		case t.Count == end:
			break counts
		}
		t.Count++
		hit(t.Parts, gate, t.Count)
		leaves := func(p api.Seen) bool { return gate.after(p.At).final == t.Count }
		for _, p := range t.Parts {
			if leaves(p) {
				fates = append(fates, api.Fate{Id: p.Id, Verdict: p.Verdict, Hit: p.Hit})
			}
		}
		t.Parts = without(t.Parts, leaves)
	}
	return t, fates, api.OK
}

// isOpen reports whether the gate is open during a count.
func isOpen(parts []api.Seen, gate window, count int) bool {
	return slices.ContainsFunc(parts, func(p api.Seen) bool {
		return p.Verdict != api.Pass && gate.after(p.At).has(count)
	})
}

// hit marks the parts that may be at the gate during a count, if this is open.
func hit(parts []api.Seen, gate window, count int) {
	if !isOpen(parts, gate, count) {
		return
	}
	for i, p := range parts {
		if gate.after(p.At).has(count) {
			parts[i].Hit = true
		}
	}
}

// without returns what is left of a list, in new memory.
func without[T any](list []T, isDropped func(x T) bool) []T {
	var left []T
	for _, x := range list {
		if !isDropped(x) {
			left = append(left, x)
		}
	}
	return left
}
