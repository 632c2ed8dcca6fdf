package belt_test

import (
	"slices"
	"testing"

	"sightbench/api"
	"sightbench/belt"
)

// sensed returns the track in which a part passes the sensor.
func sensed(t *testing.T, track api.Track) api.Track {
	t.Helper()
	next, id, e := belt.Sense(track)
	if e != api.OK || id != track.Next {
		t.Fatal(track, id, e)
	}
	return next
}

// told returns the track in which the last part has a verdict, unless that is 0.
func told(t *testing.T, track api.Track, verdict uint8) api.Track {
	t.Helper()
	if verdict == 0 {
		return track
	}
	next, e := belt.Tell(track, track.Next-1, verdict)
	if e != api.OK {
		t.Fatal(track, verdict, e)
	}
	return next
}

// advance returns the track after n counts, and the fates of those that left.
func advance(t *testing.T, track api.Track, n int) (api.Track, []api.Fate) {
	t.Helper()
	next, fates, e := belt.Advance(track, n)
	if e != api.OK {
		t.Fatal(track, n, e)
	}
	return next, fates
}

// isOpen reports whether the gate is open during the next count.
func isOpen(t *testing.T, track api.Track) bool {
	t.Helper()
	open, e := belt.Open(track)
	if e != api.OK {
		t.Fatal(track, e)
	}
	return open
}

// P9.2
func TestNewTrack(t *testing.T) {
	for _, b := range goodBelts() {
		track, e := belt.NewTrack(b)
		if e != api.OK || !same(track, api.Track{Belt: b}) {
			t.Error(b, track, e)
		}
		if e := belt.CheckTrack(track); e != api.OK {
			t.Error(track, e)
		}
	}
}

// P9.2: which tracks are valid, up to the limits.
func TestCheckTrack(t *testing.T) {
	for _, change := range []func(t *api.Track){
		func(t *api.Track) {},
		func(t *api.Track) { t.Count = 11 },
		func(t *api.Track) { t.Count = 9 },
		func(t *api.Track) { t.Next = mostEver },
		func(t *api.Track) { t.Next, t.Parts[2].Id = mostEver, mostEver-1 },
		func(t *api.Track) { t.Parts[0].Id, t.Parts[1].Id, t.Parts[2].Id = 0, 1, 2 },
		func(t *api.Track) { t.Parts[0].At = 0 },
		func(t *api.Track) { t.Parts[2].At = 10 },
		func(t *api.Track) { t.Parts[1].At = 5 },
		func(t *api.Track) { t.Parts[0].Hit, t.Parts[1].Hit = false, false },
		func(t *api.Track) { t.Parts[0].Verdict, t.Parts[1].Verdict, t.Parts[2].Verdict = 0, 3, 3 },
		func(t *api.Track) { t.Parts = nil },
		func(t *api.Track) { t.Parts, t.Count, t.Next = nil, mostEver, mostEver },
		func(t *api.Track) { t.Parts, t.Next = []api.Seen{}, 0 },
	} {
		track := crowded()
		change(&track)
		if e := belt.CheckTrack(track); e != api.OK {
			t.Error(track, e)
		}
	}
	end := crowded()
	end.Count = mostEver
	for i := range end.Parts {
		end.Parts[i].At += mostEver - 10
	}
	for _, track := range []api.Track{end, full(), {Belt: example(), Count: mostEver, Next: 1, Parts: []api.Seen{{At: mostEver}}}} {
		if e := belt.CheckTrack(track); e != api.OK {
			t.Error(track, e)
		}
	}
}

// P9.2: tracks that are not valid, with each belt that is not valid, too.
func TestBadTracks(t *testing.T) {
	check := func(track api.Track, want api.Errno) {
		t.Helper()
		if e := belt.CheckTrack(track); e != want {
			t.Fatal(track, e)
		}
		next, id, e := belt.Sense(track)
		fails(t, "Sense", isNothing(next) && id == 0, e, want)
		for _, id := range []int{2, 6, 99, -1} {
			for _, verdict := range []uint8{1, 0, 4} {
				next, e := belt.Tell(track, id, verdict)
				fails(t, "Tell", isNothing(next), e, want)
			}
		}
	}
	for _, b := range badBelts() {
		track, e := belt.NewTrack(b)
		fails(t, "NewTrack", isNothing(track), e, api.ErrBelt)
		check(api.Track{Belt: b}, api.ErrBelt)
		check(api.Track{Belt: b, Count: -1, Next: over}, api.ErrBelt)
		track = crowded()
		track.Belt = b
		check(track, api.ErrBelt)
	}
	for _, track := range badTracks() {
		check(track, api.ErrBad)
	}
}

// P9.2: a part passes the sensor, whatever else is on the track.
func TestSense(t *testing.T) {
	d := newDice(77)
	passed, refused := 0, 0
	for range 6000 {
		track := d.track()
		n := len(track.Parts)
		next, id, e := belt.Sense(track)
		if n > 0 && track.Parts[n-1].At == track.Count {
			fails(t, "Sense", isNothing(next) && id == 0, e, api.ErrOrder)
			refused++
			continue
		}
		if n == 32 || track.Next == mostEver {
			fails(t, "Sense", isNothing(next) && id == 0, e, api.ErrFull)
			continue
		}
		passed++
		want := track
		want.Next++
		want.Parts = append(slices.Clone(track.Parts), api.Seen{Id: track.Next, At: track.Count})
		if e != api.OK || id != track.Next || !same(next, want) {
			t.Fatal(track, next, id, e)
		}
		if e := belt.CheckTrack(next); e != api.OK {
			t.Fatal(next, e)
		}
		next, id, e = belt.Sense(next)
		fails(t, "Sense", isNothing(next) && id == 0, e, api.ErrOrder)
	}
	if min(passed, refused) < 1000 {
		t.Error(passed, refused)
	}
}

// P9.2: each error, and with several of them the first one.
func TestSenseErrors(t *testing.T) {
	check := func(track api.Track, want api.Errno) {
		t.Helper()
		next, id, e := belt.Sense(track)
		fails(t, "Sense", isNothing(next) && id == 0, e, want)
	}
	track := full()
	check(track, api.ErrFull)
	track.Parts[31].At = track.Count
	check(track, api.ErrOrder)
	track = full()
	track.Parts = track.Parts[1:]
	if next := sensed(t, track); len(next.Parts) != 32 || next.Next != 33 {
		t.Error(next)
	}
	track.Next = mostEver
	check(track, api.ErrFull)
	track.Parts[30].At = track.Count
	check(track, api.ErrOrder)
	check(api.Track{Belt: example(), Next: mostEver}, api.ErrFull)
	if next := sensed(t, api.Track{Belt: example(), Next: mostEver - 1, Count: mostEver}); next.Next != mostEver || next.Parts[0] != (api.Seen{Id: mostEver - 1, At: mostEver}) {
		t.Error(next)
	}
}

// P9.2: verdicts that are told, in time and too late.
func TestTell(t *testing.T) {
	d := newDice(78)
	tally := map[api.Errno]int{}
	for range 20000 {
		track := d.track()
		from, _ := windowOf(track.Belt, track.Belt.Gate)
		id, verdict := d.from(-1, track.Next+1), uint8(d.from(0, 4))
		if len(track.Parts) > 0 && d.Intn(8) > 0 {
			id = track.Parts[d.Intn(len(track.Parts))].Id
		}
		next, e := belt.Tell(track, id, verdict)
		want, wanted := track, api.ErrNone
		want.Parts = slices.Clone(track.Parts)
		for i, p := range want.Parts {
			if p.Id != id {
				continue
			}
			wanted = api.OK
			if p.Verdict != 0 || track.Count-p.At >= from {
				wanted = api.ErrOrder
			}
			want.Parts[i].Verdict = verdict
		}
		if verdict == 0 || verdict == 4 {
			wanted = api.ErrArg
		}
		if wanted != api.OK {
			want = api.Track{}
		}
		if e != wanted || !same(next, want) {
			t.Fatal(track, id, verdict, e, wanted)
		}
		tally[e]++
		if e == api.OK && belt.CheckTrack(next) != api.OK {
			t.Fatal(next)
		}
	}
	for _, e := range []api.Errno{api.OK, api.ErrArg, api.ErrNone, api.ErrOrder} {
		if tally[e] < 200 {
			t.Error(tally)
		}
	}
}

// P9.2: each error, and with several of them the first one.
func TestTellErrors(t *testing.T) {
	check := func(track api.Track, id int, verdict uint8, want api.Errno) {
		t.Helper()
		next, e := belt.Tell(track, id, verdict)
		fails(t, "Tell", isNothing(next), e, want)
	}
	for _, verdict := range []uint8{0, 4, 5, 128, 255} {
		for _, id := range []int{2, 3, 6, 0, 7, least, over} {
			check(crowded(), id, verdict, api.ErrArg)
		}
	}
	for _, verdict := range []uint8{1, 2, 3} {
		for _, id := range []int{-1, 0, 1, 4, 5, 7, 8, least, over} {
			check(crowded(), id, verdict, api.ErrNone)
		}
		check(crowded(), 2, verdict, api.ErrOrder) // it has a verdict, and may be there
		check(crowded(), 3, verdict, api.ErrOrder)
		track := crowded()
		track.Parts[1].Verdict = 0 // it may be there
		check(track, 3, verdict, api.ErrOrder)
		track = crowded()
		track.Parts[2].Verdict = 1 // it has a verdict
		check(track, 6, verdict, api.ErrOrder)
		next, e := belt.Tell(crowded(), 6, verdict)
		want := crowded()
		want.Parts[2].Verdict = verdict
		if e != api.OK || !same(next, want) {
			t.Error(next, e)
		}
	}
	track := sensed(t, api.Track{Belt: example()})
	track, _ = advance(t, track, 4)
	if next, e := belt.Tell(track, 0, api.Pass); e != api.OK || next.Parts[0].Verdict != api.Pass {
		t.Error(next, e)
	}
	track, _ = advance(t, track, 1)
	check(track, 0, api.Pass, api.ErrOrder)
}
