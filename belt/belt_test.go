package belt_test

import (
	"testing"

	"sightbench/api"
	"sightbench/belt"
)

// window returns the window of a place.
func window(t *testing.T, b api.Belt, place int) (int, int) {
	t.Helper()
	from, to, e := belt.Window(b, place)
	if e != api.OK {
		t.Fatal(b, place, e)
	}
	return from, to
}

// reach returns from where to where a part's front may be.
func reach(t *testing.T, b api.Belt, n int) (int, int) {
	t.Helper()
	lo, hi, e := belt.Reach(b, n)
	if e != api.OK {
		t.Fatal(b, n, e)
	}
	return lo, hi
}

// apart returns how far apart parts are never at the gate together.
func apart(t *testing.T, b api.Belt) int {
	t.Helper()
	n, e := belt.Clear(b)
	if e != api.OK {
		t.Fatal(b, e)
	}
	return n
}

// P9.1: the document's examples, and belts without slip.
func TestBeltExamples(t *testing.T) {
	for _, x := range []struct {
		b               api.Belt
		place, from, to int
	}{
		{example(), 60, 5, 11}, {example(), 24, 2, 6}, {example(), 12, 1, 5}, {example(), 13, 2, 5}, {example(), 1, 1, 3}, {example(), 20, 2, 6}, {example(), 19, 2, 5}, {example(), far, 83334, 125003},
		{api.Belt{Step: 10, Gate: 60, Length: 20}, 60, 6, 9}, {api.Belt{Step: 10, Gate: 60, Length: 20}, 61, 7, 9}, {api.Belt{Step: 1, Gate: 1, Length: 1}, 1, 1, 3}, {api.Belt{Step: 1000, Gate: 1, Length: 1}, 1, 1, 1},
	} {
		if from, to := window(t, x.b, x.place); from != x.from || to != x.to {
			t.Error(x, from, to)
		}
	}
	if lo, hi := reach(t, example(), 5); lo != 40 || hi != 60 {
		t.Error(lo, hi)
	}
	for _, x := range []struct {
		b api.Belt
		n int
	}{{example(), 7}, {api.Belt{Step: 10, Gate: 60, Length: 20}, 4}, {api.Belt{Step: 1000, Gate: 1, Length: 1}, 1}, {api.Belt{Step: 1, Gate: far, Length: far}, far + 2}} {
		if n := apart(t, x.b); n != x.n {
			t.Error(x, n)
		}
	}
}

// P9.1: windows, also of the places at which they change, and how far apart parts have to be.
func TestWindows(t *testing.T) {
	d := newDice(70)
	for range 3000 {
		b := d.belt()
		slow, fast := slowAndFast(b)
		n := d.from(1, 9)
		for _, place := range []int{1, d.from(1, 1000), b.Gate, n*fast - 1, n * fast, n*fast + 1, n*slow - b.Length - 1, n*slow - b.Length, n*slow - b.Length + 1} {
			if place < 1 {
				continue
			}
			from, to := windowOf(b, place)
			if gotFrom, gotTo := window(t, b, place); gotFrom != from || gotTo != to {
				t.Fatal(b, place, gotFrom, gotTo, from, to)
			}
		}
		if n, want := apart(t, b), clearOf(b); n != want {
			t.Fatal(b, n, want)
		}
	}
}

// P9.1: belts of any size, also those at the limits.
func TestAnyBelts(t *testing.T) {
	d := newDice(71)
	belts := goodBelts()
	for range 40 {
		belts = append(belts, d.anyBelt())
	}
	for _, b := range belts {
		if e := belt.CheckBelt(b); e != api.OK {
			t.Fatal(b, e)
		}
		slow, fast := slowAndFast(b)
		for _, place := range []int{1, d.from(1, far), far} {
			from, to := windowOf(b, place)
			if gotFrom, gotTo := window(t, b, place); gotFrom != from || gotTo != to {
				t.Fatal(b, place, gotFrom, gotTo, from, to)
			}
		}
		for _, n := range []int{0, 1, 2, d.from(0, far), far - 1, far} {
			if lo, hi := reach(t, b, n); lo != n*slow || hi != n*fast {
				t.Fatal(b, n, lo, hi)
			}
		}
		if n, want := apart(t, b), clearOf(b); n != want {
			t.Fatal(b, n, want)
		}
	}
}

// P9.1: each error, and with several of them the first one.
func TestBeltErrors(t *testing.T) {
	check := func(b api.Belt, n int, inWindow, inReach api.Errno) {
		t.Helper()
		from, to, e := belt.Window(b, n)
		fails(t, "Window", from == 0 && to == 0, e, inWindow)
		lo, hi, e := belt.Reach(b, n)
		if inReach != api.OK {
			fails(t, "Reach", lo == 0 && hi == 0, e, inReach)
		}
	}
	for _, b := range badBelts() {
		if e := belt.CheckBelt(b); e != api.ErrBelt {
			t.Error(b, e)
		}
		for _, n := range []int{1, 5, 0, -1, far, far + 1, least, over} {
			check(b, n, api.ErrBelt, api.ErrBelt)
		}
		n, e := belt.Clear(b)
		fails(t, "Clear", n == 0, e, api.ErrBelt)
	}
	for _, b := range goodBelts() {
		for _, n := range []int{-1, -2, least, far + 1, far + 2, over, over - 1} {
			check(b, n, api.ErrArg, api.ErrArg)
		}
		check(b, 0, api.ErrArg, api.OK)
	}
}

// P9.5: the counts during which a part may truly be at a place are those of its window: not one more, however the belt moves, and not one less, as it may move so that the part is there during each of them.
func TestWindowsHold(t *testing.T) {
	d := newDice(72)
	for range 1500 {
		b := d.belt()
		place := d.from(1, 2*b.Gate)
		from, to := window(t, b, place)
		for range 6 {
			m := d.motion(b)
			length := m.length(d)
			for count, at := 1, 0; count <= to+3; count++ {
				before := at
				at += m.move(d, count)
				if isThere(before, at, length, place) && (count < from || count > to) {
					t.Fatal(b, place, count, from, to)
				}
			}
		}
		slow, fast := slowAndFast(b)
		for count := from; count <= to; count++ {
			// Before this count the belt moves as far as it can, but so that the longest part is not beyond the place if that is possible.
			before := max((count-1)*slow, min((count-1)*fast, place+b.Length))
			if !isThere(unit*before, unit*(before+fast), unit*b.Length, place) {
				t.Fatal(b, place, count, from, to)
			}
		}
	}
}
