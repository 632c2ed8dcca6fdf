package lens_test

import (
	"slices"
	"testing"

	"sightbench/api"
	"sightbench/lens"
)

// roomy returns a copy of a list with more memory behind its end, and all of that memory.
func roomy[T any](list []T, mark T) (short, long []T) {
	long = append(slices.Clone(list), slices.Repeat([]T{mark}, 20)...)
	return long[:len(list)], long
}

// P1 (R3): arguments are only read, also the memory behind the end of a list, and nothing is kept from one call to the next.
func TestMemoryOfTables(t *testing.T) {
	d := newDice(40)
	for range 200 {
		l, all := roomy(d.table(), api.Knot{At: 7, To: 7})
		before := slices.Clone(all)
		x, y := d.fracIn(l[0].At, l[len(l)-1].At), d.fracIn(l[0].To, l[len(l)-1].To)
		a, b := must[api.Frac](t)(lens.Correct(l, x)), must[api.Frac](t)(lens.Distort(l, y))
		s := must[api.Span](t)(lens.CorrectSpan(l, span(x, x)))
		if lens.CheckKnots(l) != api.OK || s != span(a, a) || !slices.Equal(all, before) {
			t.Fatal("changed", l)
		}
		if must[api.Frac](t)(lens.Correct(l, x)) != a || must[api.Frac](t)(lens.Distort(l, y)) != b {
			t.Fatal("kept", l)
		}
	}
}

// P1 (R3)
func TestMemoryOfViews(t *testing.T) {
	d := newDice(41)
	for range 200 {
		l, all := roomy(d.views(d.from(0, 5)), view(0, 1, 9, 9))
		before := slices.Clone(all)
		for range 2 {
			lens.CheckViews(l)
			lens.FirstBad(l)
			lens.Range(l, 3, 7)
			c, e := lens.Calibrate(l)
			if again, f := lens.Calibrate(before[:len(l)]); c != again || e != f || !slices.Equal(all, before) {
				t.Fatal("changed", l)
			}
		}
	}
}

// P1 (R3): what is written into a result changes neither arguments nor later results.
func TestMemoryOfStripes(t *testing.T) {
	d := newDice(42)
	for range 200 {
		n := d.from(1, api.MaxBits)
		a, b := d.sight(n)
		on, allOn := roomy(a, 77)
		off, allOff := roomy(b, 77)
		beforeOn, beforeOff := slices.Clone(allOn), slices.Clone(allOff)
		first, e := lens.Stripes(on, off, 9)
		want := slices.Clone(first)
		first = first[:cap(first)]
		for i := range first {
			first[i] = -1
		}
		again, f := lens.Stripes(on, off, 9)
		if e != api.OK || f != api.OK || !slices.Equal(again, want) || !slices.Equal(allOn, beforeOn) || !slices.Equal(allOff, beforeOff) {
			t.Fatal(on, off, again)
		}
		sameStripes(t, on, on, 0, stripes(on, on, 0)...)
	}
}

// P1 (R4): nil and empty lists are the same.
func TestNilAndEmpty(t *testing.T) {
	for _, l := range [][]api.Knot{nil, {}} {
		if e := lens.CheckKnots(l); e != api.ErrKnots {
			t.Error(e)
		}
	}
	for _, l := range [][]api.View{nil, {}} {
		if e := lens.CheckViews(l); e != api.OK {
			t.Error(e)
		}
		if n := must[int](t)(lens.FirstBad(l)); n != -1 {
			t.Error(n)
		}
		fails[api.Camera](t, "Calibrate", api.ErrLoose)(lens.Calibrate(l))
		fails[api.Span](t, "Range", api.ErrLoose)(lens.Range(l, 0, 1))
	}
	for _, l := range [][]int{nil, {}} {
		if list, e := lens.Stripes(l, nil, 0); len(list) != 0 || e != api.ErrArg {
			t.Error(list, e)
		}
	}
}

// P1 (R7): no call panics, whatever the arguments are.
func TestExtremes(t *testing.T) {
	d := newDice(43)
	numbers := []int{least, least + 1, -most - 1, -most, -1 << 32, -4097, -4096, -1000, -2, -1, 0, 1, 2, 3, 8, 16, 255, 1000, 4096, 1 << 20, 1 << 32, most - 1, most, most + 1, over - 1, over}
	n := func() int { return numbers[d.Intn(len(numbers))] }
	f := func() api.Frac { return frac(n(), n()) }
	s := func() api.Span { return span(f(), f()) }
	some := func() api.Span {
		if d.Intn(3) == 0 {
			return s()
		}
		return wholes(max(-most, min(n(), 0)), min(most, max(n(), 0)))
	}
	c := func() api.Camera { return camera(span(frac(1, max(1, min(n(), most))), whole(most)), some()) }
	for range 20000 {
		var knots []api.Knot
		var views []api.View
		var on, off []int
		for range d.Intn(5) {
			knots = append(knots, api.Knot{At: n(), To: n()})
			views = append(views, view(n(), n(), n(), n()))
			on, off = append(on, n()), append(off, n())
		}
		l := light(n(), n(), n())
		lens.CheckKnots(knots)
		lens.Correct(knots, f())
		lens.Distort(knots, f())
		lens.CorrectSpan(knots, s())
		lens.Correct(line(3), f())
		lens.Distort(line(3), f())
		lens.CorrectSpan(line(3), s())
		lens.CheckLight(l)
		lens.Value(l, n())
		lens.Radiances(l, n())
		lens.Expose(l, n())
		lens.CheckViews(views)
		lens.FirstBad(views)
		lens.Calibrate(views)
		lens.Range(views, n(), n())
		lens.Range(two(), n(), n())
		lens.Tangent(c(), some())
		lens.Tangent(camera(s(), s()), s())
		lens.Depth(c(), c(), n(), some(), some())
		lens.Depth(c(), camera(s(), s()), 1, some(), s())
		lens.Gray(n())
		lens.Stripes(on, off, n())
	}
}
