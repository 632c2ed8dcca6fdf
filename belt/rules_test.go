package belt_test

import (
	"slices"
	"testing"

	"sightbench/api"
	"sightbench/belt"
)

// roomy returns a copy of a list with more memory behind its end, and all of that memory.
func roomy[T any](list []T, filling T) (short, long []T) {
	long = append(slices.Clone(list), slices.Repeat([]T{filling}, 40)...)
	return long[:len(list)], long
}

// spoil writes into all memory of a list, also behind its end.
func spoil[T any](list []T, filling T) {
	list = list[:cap(list)]
	for i := range list {
		list[i] = filling
	}
}

// P1 (R3): tracks are only read, also the memory behind their parts, results share no memory with them, and nothing is kept from one call to the next.
func TestMemoryOfTracks(t *testing.T) {
	d := newDice(82)
	other := api.Seen{Id: -5, At: -6, Verdict: 77, Hit: true}
	for range 2000 {
		own := d.track()
		own.Count = min(own.Count, mostEver-5)
		if belt.CheckTrack(own) != api.OK {
			continue
		}
		track := own
		parts, all := roomy(own.Parts, other)
		track.Parts = parts
		before := slices.Clone(all)
		id := own.Next - 1
		for range 2 {
			if a, b := isOpen(t, track), isOpen(t, own); a != b {
				t.Fatal("kept", own)
			}
			sensed, _, _ := belt.Sense(track)
			again, _, _ := belt.Sense(own)
			isApart(t, own, sensed, again)
			told, _ := belt.Tell(track, id, api.Fail)
			again, _ = belt.Tell(own, id, api.Fail)
			isApart(t, own, told, again)
			next, fates := advance(t, track, 3)
			again, want := advance(t, own, 3)
			if !slices.Equal(fates, want) {
				t.Fatal("kept", own)
			}
			isApart(t, own, next, again)
			spoil(fates, api.Fate{Id: -1})
		}
		if !slices.Equal(all, before) {
			t.Fatal("changed", own)
		}
	}
}

// isApart fails the test unless two results are the same, of which each has its own memory.
func isApart(t *testing.T, from, a, b api.Track) {
	t.Helper()
	if !same(a, b) {
		t.Fatal("kept", from, a, b)
	}
	kept := slices.Clone(a.Parts)
	spoil(b.Parts, api.Seen{Id: -1})
	if !slices.Equal(a.Parts, kept) {
		t.Fatal("shared", from)
	}
	spoil(a.Parts, api.Seen{Id: -2})
	if belt.CheckTrack(from) != api.OK {
		t.Fatal("shared", from)
	}
}

// P1 (R3): two tracks that are made from one do not share the memory of the parts that are put behind it.
func TestMemoryOfSense(t *testing.T) {
	track := api.Track{Belt: example()}
	for range 5 {
		track = sensed(t, track)
		track, _ = advance(t, track, 1)
	}
	track.Parts = slices.Grow(track.Parts, 10)
	a := sensed(t, track)
	track.Next++
	b := sensed(t, track)
	if a.Parts[5].Id != 5 || b.Parts[5].Id != 6 || &a.Parts[0] == &track.Parts[0] || &a.Parts[0] == &b.Parts[0] {
		t.Error(a, b)
	}
}

// P1 (R3): lists of counts are only read, and assignments share no memory, also not with one another.
func TestMemoryOfMatch(t *testing.T) {
	d := newDice(83)
	for range 1000 {
		b := d.belt()
		first, allFirst := roomy(d.counts(d.from(0, 10)), -7)
		second, allSecond := roomy(d.counts(d.from(0, 3)), -7)
		before, beforeSecond := slices.Clone(allFirst), slices.Clone(allSecond)
		want := assignments(b, first, second)
		for range 2 {
			all, _ := belt.Match(b, first, second)
			if !equalLists(all, want) {
				t.Fatal("kept", b, first, second)
			}
			for i := range all {
				spoil(all[i], -1)
				if !equalLists(all[i+1:], want[i+1:]) {
					t.Fatal("shared", b, first, second)
				}
			}
			spoil(all, nil)
		}
		if !slices.Equal(allFirst, before) || !slices.Equal(allSecond, beforeSecond) {
			t.Fatal("changed", first, second)
		}
	}
}

// P1 (R4): nil and empty lists are the same.
func TestEmptyLists(t *testing.T) {
	for _, none := range [][]api.Seen{nil, {}} {
		track := api.Track{Belt: example(), Count: 5, Next: 3, Parts: none}
		if e := belt.CheckTrack(track); e != api.OK {
			t.Error(e)
		}
		if next, fates := advance(t, track, 2); next.Count != 7 || next.Next != 3 || len(next.Parts)+len(fates) != 0 {
			t.Error(next, fates)
		}
		if next := sensed(t, track); !slices.Equal(next.Parts, []api.Seen{{Id: 3, At: 5}}) {
			t.Error(next)
		}
		next, e := belt.Tell(track, 2, api.Pass)
		fails(t, "Tell", isNothing(next), e, api.ErrNone)
		if isOpen(t, track) {
			t.Error(track)
		}
	}
}

// P1 (R7): no call panics, whatever the arguments are.
func TestExtremes(t *testing.T) {
	d := newDice(84)
	numbers := []int{least, least + 1, -1 << 40, -2, -1, 0, 0, 0, 1, 1, 2, 3, 5, 10, 11, 20, 60, 999, 1000, 1001, far - 1, far, far + 1, 1 << 32, mostEver - 1, mostEver, mostEver + 1, over - 1, over}
	n := func() int { return numbers[d.Intn(len(numbers))] }
	list := func() []int {
		var l []int
		for range d.Intn(12) {
			l = append(l, n())
		}
		return l
	}
	belts := append(badBelts(), goodBelts()...)
	for range 20000 {
		b := belts[d.Intn(len(belts))]
		track := d.track()
		switch d.Intn(5) {
		case 0:
			track.Belt = b
		case 1:
			track.Count = n()
		case 2:
			track.Next = n()
		case 3:
			for range d.Intn(40) {
				track.Parts = append(track.Parts, api.Seen{Id: n(), At: n(), Verdict: uint8(d.Intn(256)), Hit: d.Intn(2) == 0})
			}
		}
		belt.CheckBelt(b)
		belt.Window(b, n())
		belt.Reach(b, n())
		belt.Clear(b)
		belt.NewTrack(b)
		belt.CheckTrack(track)
		belt.Sense(track)
		belt.Tell(track, n(), uint8(d.Intn(256)))
		belt.Open(track)
		belt.Advance(track, n())
		belt.Match(b, list(), list())
		belt.Match(b, d.counts(10), d.counts(d.Intn(11)))
	}
}
