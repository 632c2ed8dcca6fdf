package belt_test

import (
	"math/rand"
	"slices"
	"testing"

	"sightbench/api"
)

const (
	least    = -1 << 63
	over     = 1<<63 - 1
	far      = 1000000
	mostEver = 1 << 40
)

// example returns the belt of the document's examples.
func example() api.Belt { return api.Belt{Step: 10, Slip: 2, Gate: 60, Length: 20} }

// slowAndFast returns by how much a belt moves on with a count, at least and at most.
func slowAndFast(b api.Belt) (int, int) { return b.Step - b.Slip, b.Step + b.Slip }

// windowOf returns the window of a place: it begins with the first count after which a part may have come to the place, and ends with the last one before which it may not have gone beyond.
func windowOf(b api.Belt, place int) (int, int) {
	slow, fast := slowAndFast(b)
	from, to := 0, 1
	for from*fast < place {
		from++
	}
	for to*slow-b.Length <= place {
		to++
	}
	return from, to
}

// clearOf returns how far apart parts have to be: they are moved apart until no count is in both windows.
func clearOf(b api.Belt) int {
	from, to := windowOf(b, b.Gate)
	for n := 1; ; n++ {
		if from+n > to {
			return n
		}
	}
}

// isPass reports whether a verdict keeps the gate closed.
func isPass(verdict uint8) bool { return verdict == 1 }

// openOf reports whether the gate is open during a count.
func openOf(t api.Track, count int) bool {
	from, to := windowOf(t.Belt, t.Belt.Gate)
	for _, p := range t.Parts {
		if !isPass(p.Verdict) && count-p.At >= from && count-p.At <= to {
			return true
		}
	}
	return false
}

// passed returns a track after one count, as the document describes it, and the fates of those that left.
func passed(t api.Track) (api.Track, []api.Fate) {
	from, to := windowOf(t.Belt, t.Belt.Gate)
	next := t
	next.Count, next.Parts = t.Count+1, nil
	var fates []api.Fate
	for _, p := range t.Parts {
		age := next.Count - p.At
		p.Hit = p.Hit || age >= from && age <= to && openOf(t, next.Count)
		if age == to {
			fates = append(fates, api.Fate{Id: p.Id, Verdict: p.Verdict, Hit: p.Hit})
		} else {
			next.Parts = append(next.Parts, p)
		}
	}
	return next, fates
}

// advanced returns a track after n counts, and the fates of those that left.
func advanced(t api.Track, n int) (api.Track, []api.Fate) {
	var fates []api.Fate
	for range n {
		var some []api.Fate
		t, some = passed(t)
		fates = append(fates, some...)
	}
	return t, fates
}

// same reports whether two tracks are the same.
func same(a, b api.Track) bool {
	return a.Belt == b.Belt && a.Count == b.Count && a.Next == b.Next && slices.Equal(a.Parts, b.Parts)
}

// isNothing reports whether a track is the zero value.
func isNothing(t api.Track) bool { return same(t, api.Track{}) }

// doAgree reports whether two gaps agree.
func doAgree(b api.Belt, one, other int) bool {
	slow, fast := slowAndFast(b)
	return one*slow <= other*fast && other*slow <= one*fast
}

// assignments returns all assignments: of all sets of indices those of the right size are tried, in each of which all pairs are looked at.
func assignments(b api.Belt, first, second []int) [][]int {
	var all [][]int
	for set := range 1 << len(first) {
		var list []int
		for i := range first {
			if set>>i&1 == 1 {
				list = append(list, i)
			}
		}
		if len(list) == len(second) && isAssignment(b, first, second, list) {
			all = append(all, list)
		}
	}
	slices.SortFunc(all, slices.Compare[[]int])
	return all
}

// isAssignment reports whether indices, as many as the second station has parts, are an assignment.
func isAssignment(b api.Belt, first, second, list []int) bool {
	for i := range list {
		for j := range i {
			if list[j] >= list[i] || !doAgree(b, first[list[i]]-first[list[j]], second[i]-second[j]) {
				return false
			}
		}
	}
	return true
}

// equalLists reports whether two lists of lists are the same.
func equalLists(a, b [][]int) bool { return slices.EqualFunc(a, b, slices.Equal[[]int]) }

// fails fails the test unless a call returned that error and zero values.
func fails(t *testing.T, name string, isZero bool, e, want api.Errno) {
	t.Helper()
	if !isZero || e != want {
		t.Fatalf("%s: %v instead of %v, zero values: %v", name, e, want, isZero)
	}
}

// dice makes random values.
type dice struct{ *rand.Rand }

func newDice(seed int64) dice { return dice{rand.New(rand.NewSource(seed))} }

// from returns a number from lo to hi.
func (d dice) from(lo, hi int) int { return lo + d.Intn(hi-lo+1) }

// belt returns a belt whose parts leave soon.
func (d dice) belt() api.Belt {
	b := api.Belt{Step: d.from(1, []int{3, 12, 1000}[d.Intn(3)])}
	b.Slip = []int{0, d.Intn(b.Step), d.Intn(b.Step), d.Intn((b.Step + 3) / 4)}[d.Intn(4)]
	slow := b.Step - b.Slip
	b.Gate, b.Length = d.from(1, 12*slow), d.from(1, 8*slow)
	return b
}

// anyBelt returns a belt of any size.
func (d dice) anyBelt() api.Belt {
	b := api.Belt{Step: d.from(1, 1000), Gate: d.from(1, far), Length: d.from(1, far)}
	b.Slip = d.Intn(b.Step)
	return b
}

// track returns a valid track with some parts, which may be one that no calls lead to.
func (d dice) track() api.Track {
	b := d.belt()
	from, to := windowOf(b, b.Gate)
	t := api.Track{Belt: b, Count: d.Intn(2 * to)}
	if d.Intn(3) == 0 {
		t.Count = mostEver - d.Intn(2*to)
	}
	crowd := d.Intn(100)
	for at := max(0, t.Count-to+1); at <= t.Count; at++ {
		if d.Intn(100) >= crowd || len(t.Parts) == 32 {
			continue
		}
		p := api.Seen{Id: t.Next + d.Intn(3), At: at, Verdict: uint8(d.Intn(4))}
		if d.Intn(3) > 0 {
			p.Verdict = 1
		}
		p.Hit = at+from <= t.Count && d.Intn(2) == 0
		t.Parts, t.Next = append(t.Parts, p), p.Id+1
	}
	t.Next += d.Intn(2)
	if d.Intn(4) == 0 {
		t = renumbered(t, mostEver-t.Next)
	}
	return t
}

// renumbered returns a track whose numbers are greater by n.
func renumbered(t api.Track, n int) api.Track {
	t.Next, t.Parts = t.Next+n, slices.Clone(t.Parts)
	for i := range t.Parts {
		t.Parts[i].Id += n
	}
	return t
}

// counts returns n increasing counts, those of a few places apart.
func (d dice) counts(n int) []int {
	most := []int{2, 10, 100}[d.Intn(3)]
	at := d.Intn(100)
	var list []int
	for range n {
		list = append(list, at)
		at += d.from(1, most)
	}
	return list
}

// badBelts returns belts that are not valid.
func badBelts() []api.Belt {
	var list []api.Belt
	add := func(change func(b *api.Belt, n int), numbers ...int) {
		for _, n := range numbers {
			b := example()
			change(&b, n)
			list = append(list, b)
		}
	}
	add(func(b *api.Belt, n int) { b.Step = n }, 0, -1, 1, 2, 1001, 1002, least, least+1, least+2, over)
	add(func(b *api.Belt, n int) { b.Step, b.Slip = n, 0 }, 0, -1, 1001, least, over)
	add(func(b *api.Belt, n int) { b.Slip = n }, -1, -2, 10, 11, 1000, least, over)
	add(func(b *api.Belt, n int) { b.Step, b.Slip = n, n-1 }, 0, -5, 1001, least+1, over)
	add(func(b *api.Belt, n int) { b.Gate = n }, 0, -1, far+1, least, over)
	add(func(b *api.Belt, n int) { b.Length = n }, 0, -1, far+1, least, over)
	return append(list, api.Belt{}, api.Belt{Step: 1}, api.Belt{Step: least, Slip: least, Gate: least, Length: least}, api.Belt{Step: over, Slip: over, Gate: over, Length: over})
}

// goodBelts returns belts at the limits.
func goodBelts() []api.Belt {
	return []api.Belt{
		example(), {Step: 1, Gate: 1, Length: 1}, {Step: 1, Gate: far, Length: far}, {Step: 1000, Gate: far, Length: 1}, {Step: 1000, Slip: 999, Gate: 1, Length: far},
		{Step: 1000, Slip: 999, Gate: far, Length: far}, {Step: 1000, Slip: 999, Gate: far, Length: 1}, {Step: 2, Slip: 1, Gate: 1, Length: 1}, {Step: 1000, Gate: 1, Length: 1}, {Step: 10, Slip: 9, Gate: 60, Length: 20},
	}
}

// crowded returns a valid track of the belt of the examples with three parts, at the counts 1, 4 and 9 of 10; First is 5 and Final is 11.
func crowded() api.Track {
	return api.Track{Belt: example(), Count: 10, Next: 7, Parts: []api.Seen{{Id: 2, At: 1, Verdict: 2, Hit: true}, {Id: 3, At: 4, Verdict: 1, Hit: true}, {Id: 6, At: 9}}}
}

// full returns a valid track with 32 parts.
func full() api.Track {
	t := api.Track{Belt: api.Belt{Step: 1, Gate: 100, Length: 5}, Count: 40, Next: 32}
	for i := range 32 {
		t.Parts = append(t.Parts, api.Seen{Id: i, At: i + 8})
	}
	return t
}

// badTracks returns tracks with a valid belt that are not valid.
func badTracks() []api.Track {
	var list []api.Track
	add := func(from api.Track, change func(t *api.Track)) {
		from.Parts = slices.Clone(from.Parts)
		change(&from)
		list = append(list, from)
	}
	for _, n := range []int{-1, least, mostEver + 1, over} {
		add(api.Track{Belt: example()}, func(t *api.Track) { t.Count = n })
		add(api.Track{Belt: example()}, func(t *api.Track) { t.Next = n })
		add(crowded(), func(t *api.Track) { t.Count = n })
		add(crowded(), func(t *api.Track) { t.Next = n })
		for i := range 3 {
			add(crowded(), func(t *api.Track) { t.Parts[i].Id = n })
			add(crowded(), func(t *api.Track) { t.Parts[i].At = n })
		}
	}
	for _, change := range []func(t *api.Track){
		// Numbers that do not increase, or are not below Next.
		func(t *api.Track) { t.Next = 6 },
		func(t *api.Track) { t.Next = 0 },
		func(t *api.Track) { t.Parts[1].Id = 2 },
		func(t *api.Track) { t.Parts[1].Id = 1 },
		func(t *api.Track) { t.Parts[2].Id = 3 },
		func(t *api.Track) { t.Parts[2].Id = 7 },
		// Counts that do not increase, or have not passed yet.
		func(t *api.Track) { t.Parts[1].At = 1 },
		func(t *api.Track) { t.Parts[1].At = 0 },
		func(t *api.Track) { t.Parts[2].At = 4 },
		func(t *api.Track) { t.Parts[2].At = 11 },
		func(t *api.Track) { t.Count = 8 },
		// Parts that have left.
		func(t *api.Track) { t.Count = 12 },
		func(t *api.Track) { t.Count = 13 },
		func(t *api.Track) { t.Count, t.Parts = 20, t.Parts[2:] },
		// No verdicts.
		func(t *api.Track) { t.Parts[0].Verdict = 4 },
		func(t *api.Track) { t.Parts[2].Verdict = 255 },
		// Parts that cannot be at the gate yet.
		func(t *api.Track) { t.Parts[2].Hit = true },
		func(t *api.Track) { t.Parts[1].At, t.Parts[1].Hit = 6, true },
	} {
		add(crowded(), change)
	}
	for _, p := range []api.Seen{{At: -1}, {At: -5}, {Id: -1}, {Id: -1, At: -1}, {Id: 1}, {At: 6}} {
		list = append(list, api.Track{Belt: example(), Count: 5, Next: 1, Parts: []api.Seen{p}})
	}
	add(full(), func(t *api.Track) { t.Parts[31].At, t.Parts[31].Hit = 40, true })
	add(full(), func(t *api.Track) { t.Next, t.Parts = 33, append(t.Parts, api.Seen{Id: 32, At: 40}) })
	add(full(), func(t *api.Track) { t.Next, t.Parts = 32+1000, append(t.Parts, make([]api.Seen, 1000)...) })
	return list
}
