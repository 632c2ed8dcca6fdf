package lens_test

import (
	"math/big"
	"slices"
	"testing"

	"sightbench/api"
	"sightbench/lens"
)

func view(x, z, lo, hi int) api.View { return api.View{X: x, Z: z, Lo: lo, Hi: hi} }

// two are the first two views of the document's examples.
func two() []api.View { return []api.View{view(0, 10, 100, 104), view(10, 10, 196, 200)} }

// model is a focal length and a centre.
type model struct{ f, c *big.Rat }

// at returns where a target at a tangent is seen.
func (m model) at(tangent *big.Rat) *big.Rat { return plus(times(m.f, tangent), m.c) }

func (m model) fulfils(l []api.View) bool {
	for _, v := range l {
		if !inOrder(ratio(v.Lo, 1), m.at(ratio(v.X, v.Z)), ratio(v.Hi, 1)) {
			return false
		}
	}
	return true
}

// corners returns all models that fulfil views, and for two of them with different tangents lie exactly on an end of both: the corners of the area of those that fulfil the views.
func corners(l []api.View) []model {
	var list []model
	for i, v := range l {
		for _, w := range l[:i] {
			step := minus(ratio(v.X, v.Z), ratio(w.X, w.Z))
			if step.Sign() == 0 {
				continue
			}
			for _, p := range []int{v.Lo, v.Hi} {
				for _, q := range []int{w.Lo, w.Hi} {
					f := divided(ratio(p-q, 1), step)
					m := model{f, minus(ratio(p, 1), times(f, ratio(v.X, v.Z)))}
					if m.fulfils(l) {
						list = append(list, m)
					}
				}
			}
		}
	}
	return list
}

// parallel reports whether all views have the same tangent.
func parallel(l []api.View) bool {
	return !slices.ContainsFunc(l, func(v api.View) bool { return v.X*l[0].Z != l[0].X*v.Z })
}

// state returns the error that Calibrate has to return, by the definitions.
func state(l []api.View) api.Errno {
	if len(l) == 0 {
		return api.ErrLoose
	}
	if !parallel(l) {
		// The area of the models is bounded, so that it has corners unless it is empty.
		if len(corners(l)) == 0 {
			return api.ErrNone
		}
		return api.OK
	}
	for _, v := range l {
		for _, w := range l {
			if v.Lo > w.Hi {
				return api.ErrNone
			}
		}
	}
	return api.ErrLoose
}

// hull returns the span of the values that models have.
func hull(list []model, value func(m model) *big.Rat) (lo, hi *big.Rat) {
	for _, m := range list {
		x := value(m)
		if lo == nil || x.Cmp(lo) < 0 {
			lo = x
		}
		if hi == nil || x.Cmp(hi) > 0 {
			hi = x
		}
	}
	return lo, hi
}

// isHull reports whether a span is valid and from the least to the greatest of the values that models have.
func isHull(s api.Span, list []model, value func(m model) *big.Rat) bool {
	lo, hi := hull(list, value)
	return equals(s.Lo, lo) && equals(s.Hi, hi)
}

func focalOf(m model) *big.Rat { return m.f }

func centreOf(m model) *big.Rat { return m.c }

// target returns a place and a distance.
func (d dice) target() (x, z int) {
	size, far := d.size(api.MaxPlace), d.size(api.MaxPlace)
	return d.from(-size, size), d.from(1, far)
}

// near returns a view of a target that a camera with f and c may have, if that is within the limits.
func (d dice) near(f, c, slack int) (api.View, bool) {
	x, z := d.target()
	lo := c + (f*x-d.Intn(z))/z - d.Intn(slack+1)
	hi := c + (f*x+d.Intn(z))/z + d.Intn(slack+1)
	return view(x, z, lo, hi), lo <= hi && lo >= -api.MaxAt && hi <= api.MaxAt
}

// views returns n valid views of one camera, with now and then one that has nothing to do with the others, or another one of the same tangent.
func (d dice) views(n int) []api.View {
	f, c, slack := d.from(-1000, 3000), d.from(-500, 2000), d.size(40)
	if d.Intn(3) == 0 {
		f, c, slack = d.from(-3, 3), d.from(-3, 3), 1
	}
	var l []api.View
	for len(l) < n {
		if v, ok := d.near(f, c, slack); ok {
			l = append(l, v)
		}
	}
	if n > 0 && d.Intn(4) == 0 {
		l[d.Intn(n)] = d.anyView()
	}
	if n > 1 && d.Intn(4) == 0 {
		i, j := d.Intn(n), d.Intn(n)
		l[i].X, l[i].Z = l[j].X, l[j].Z
	}
	return l
}

// anyView returns a valid view that has nothing to do with others.
func (d dice) anyView() api.View {
	x, z := d.target()
	lo, hi := d.from(-api.MaxAt, api.MaxAt), d.from(-api.MaxAt, api.MaxAt)
	return view(x, z, min(lo, hi), max(lo, hi))
}

// small returns views with few different numbers, so that tangents are often the same, and areas a line or a point.
func (d dice) small(n int) []api.View {
	var l []api.View
	for range n {
		lo := d.from(-2, 2)
		l = append(l, view(d.from(-2, 2), d.from(1, 2), lo, lo+d.from(0, 2)))
	}
	return l
}

// extremes are views with the greatest numbers, and with tangents that hardly differ.
func extremes() [][]api.View {
	const p, a = api.MaxPlace, api.MaxAt
	return [][]api.View{
		{view(-p, 1, -a, -a), view(p, 1, a, a)},
		{view(-p, p, a, a), view(p-1, p, -a, -a)},
		{view(p, p-1, -a, a), view(p-1, p-2, -a, a)},
		{view(p, p-1, a, a), view(p-1, p-2, -a, -a)},
		{view(-p, p-1, -a, -a), view(1-p, p-2, a, a)},
		{view(1, p, a, a), view(1, p-1, -a, -a)},
		{view(1, p, -a, a), view(1, p-1, -a, a), view(-1, p, -a, a)},
		{view(p, p-1, -a, a), view(p, p-1, a, a), view(p-1, p-2, a, a)},
		{view(p, 1, -a, a), view(-p, 1, -a, a), view(0, p, -a, a), view(p, p, -a, a)},
	}
}

// eachViews calls see for lists of valid views of all lengths.
func eachViews(seed int64, see func(d dice, l []api.View)) {
	d := newDice(seed)
	for _, l := range extremes() {
		see(d, l)
	}
	for range 1500 {
		see(d, d.small(d.from(0, 5)))
		see(d, d.views(d.from(0, 5)))
	}
	for range 20 {
		see(d, d.views(d.from(6, api.MaxViews)))
		see(d, d.small(api.MaxViews))
	}
}

// invalidViews returns views that are not valid.
func invalidViews() []api.View {
	list := []api.View{{}, view(0, 1, 1, 0), view(0, 1, api.MaxAt, -api.MaxAt)}
	for _, n := range []int{least, -4097, 4097, over} {
		list = append(list, view(n, 1, 0, 0), view(0, n, 0, 0), view(0, 1, n, 0), view(0, 1, 0, n), view(0, 1, n, n))
	}
	return append(list, view(1001, 1, 0, 0), view(-1001, 1, 0, 0), view(0, 0, 0, 0), view(0, -1, 0, 0), view(0, 1001, 0, 0))
}

// P4.3
func TestCheckViews(t *testing.T) {
	for _, bad := range invalidViews() {
		for n := range api.MaxViews {
			l := append(slices.Repeat([]api.View{view(0, 1, 0, 0)}, n), bad)
			if e := lens.CheckViews(l); e != api.ErrViews {
				t.Errorf("CheckViews(%v): %v", l, e)
			}
			if e := lens.CheckViews(append([]api.View{bad}, l[:n]...)); e != api.ErrViews {
				t.Errorf("CheckViews(%v): %v", l, e)
			}
		}
		if e := lens.CheckViews(slices.Repeat([]api.View{bad}, api.MaxViews+1)); e != api.ErrMany {
			t.Errorf("CheckViews of 13: %v", e)
		}
	}
	if e := lens.CheckViews(slices.Repeat(two()[:1], api.MaxViews+1)); e != api.ErrMany {
		t.Errorf("CheckViews of 13: %v", e)
	}
	for _, l := range [][]api.View{nil, {}, two(), slices.Repeat(two()[:1], api.MaxViews), {view(-1000, 1, -4096, 4096), view(1000, 1000, 4096, 4096), view(0, 1, -4096, -4096)}} {
		if e := lens.CheckViews(l); e != api.OK {
			t.Errorf("CheckViews(%v): %v", l, e)
		}
	}
}

// P4.3: the document's examples.
func TestViewExamples(t *testing.T) {
	if c := must[api.Camera](t)(lens.Calibrate(two())); c.F != wholes(92, 100) || c.C != wholes(100, 104) {
		t.Error(c)
	}
	for _, x := range []struct {
		x, z int
		want api.Span
	}{{1, 2, wholes(148, 152)}, {2, 1, wholes(288, 300)}, {0, 1, wholes(100, 104)}, {500, 1000, wholes(148, 152)}, {-1, 1, wholes(0, 12)}} {
		if s := must[api.Span](t)(lens.Range(two(), x.x, x.z)); s != x.want {
			t.Error(x, s)
		}
	}
	three := append(two(), view(20, 10, 301, 310))
	if n := must[int](t)(lens.FirstBad(three)); n != 2 {
		t.Error(n)
	}
	if n := must[int](t)(lens.FirstBad(two())); n != -1 {
		t.Error(n)
	}
	fails[api.Camera](t, "Calibrate", api.ErrNone)(lens.Calibrate(three))
	fails[api.Span](t, "Range", api.ErrNone)(lens.Range(three, 1, 2))
}

// P4.3: contradictions and loose views.
func TestViewStates(t *testing.T) {
	for _, x := range []struct {
		l        []api.View
		e        api.Errno
		firstBad int
	}{
		{nil, api.ErrLoose, -1},
		{two()[:1], api.ErrLoose, -1},
		{[]api.View{view(1, 2, 0, 5), view(2, 4, 5, 9)}, api.ErrLoose, -1},
		{[]api.View{view(1, 2, 0, 5), view(2, 4, 6, 9)}, api.ErrNone, 1},
		{[]api.View{view(2, 4, 6, 9), view(1, 2, 0, 5)}, api.ErrNone, 1},
		{[]api.View{view(0, 4, 6, 9), view(0, 7, 9, 10), view(0, 1, 7, 8)}, api.ErrNone, 2},
		{[]api.View{view(0, 1, 0, 9), view(0, 1, 3, 5), view(0, 1, 5, 8)}, api.ErrLoose, -1},
		{[]api.View{view(0, 1, 0, 1), view(1, 1, 0, 1), view(2, 1, 4, 5)}, api.ErrNone, 2},
		{[]api.View{view(0, 1, 0, 1), view(1, 1, 0, 1), view(2, 1, 2, 5)}, api.OK, -1},
		{[]api.View{view(0, 1, 0, 1), view(0, 1, 2, 3), view(1, 1, 0, 9)}, api.ErrNone, 1},
		{[]api.View{view(0, 1, 0, 1), view(1, 1, 0, 9), view(0, 1, 2, 3), view(5, 1, 7, 7)}, api.ErrNone, 2},
		{[]api.View{view(1, 1, 5, 5), view(1, 1, 5, 5), view(0, 1, 5, 5)}, api.OK, -1},
	} {
		if n := must[int](t)(lens.FirstBad(x.l)); n != x.firstBad {
			t.Error("FirstBad", x.l, n)
		}
		c, e := lens.Calibrate(x.l)
		if e != x.e || e != api.OK && c != (api.Camera{}) {
			t.Error("Calibrate", x.l, c, e)
		}
		// The tangent of all views, and another one.
		for _, place := range [][2]int{{1, 2}, {0, 1}, {3, 1}} {
			if s, e := lens.Range(x.l, place[0], place[1]); e != x.e || e != api.OK && s != (api.Span{}) {
				t.Error("Range", x.l, place, s, e)
			}
		}
	}
}

// P4.3, P4.7: the spans are from the least to the greatest value at the corners, so that they have all values and are not wider.
func TestCalibrate(t *testing.T) {
	seen := make(map[api.Errno]int)
	eachViews(11, func(_ dice, l []api.View) {
		c, e := lens.Calibrate(l)
		seen[e]++
		if want := state(l); e != want || e != api.OK && c != (api.Camera{}) {
			t.Fatalf("Calibrate(%v): %v, %v instead of %v", l, c, e, want)
		}
		if e != api.OK {
			return
		}
		list := corners(l)
		if !isHull(c.F, list, focalOf) || !isHull(c.C, list, centreOf) {
			t.Fatalf("Calibrate(%v): %v", l, c)
		}
	})
	if seen[api.OK] < 500 || seen[api.ErrNone] < 500 || seen[api.ErrLoose] < 100 {
		t.Error(seen)
	}
}

// P4.3, P4.7
func TestRange(t *testing.T) {
	eachViews(12, func(d dice, l []api.View) {
		e, list := state(l), corners(l)
		for range 3 {
			x, z := d.target()
			if len(l) > 0 && d.Intn(4) == 0 {
				v := l[d.Intn(len(l))]
				x, z = v.X, v.Z
			}
			s, f := lens.Range(l, x, z)
			if f != e || e != api.OK && s != (api.Span{}) {
				t.Fatalf("Range(%v, %v, %v): %v, %v instead of %v", l, x, z, s, f, e)
			}
			if e == api.OK && !isHull(s, list, func(m model) *big.Rat { return m.at(ratio(x, z)) }) {
				t.Fatalf("Range(%v, %v, %v): %v", l, x, z, s)
			}
		}
	})
}

// P4.3
func TestFirstBad(t *testing.T) {
	eachViews(13, func(_ dice, l []api.View) {
		want := -1
		for i := range l {
			if state(l[:i+1]) == api.ErrNone {
				want = i
				break
			}
		}
		if n := must[int](t)(lens.FirstBad(l)); n != want {
			t.Fatalf("FirstBad(%v): %v instead of %v", l, n, want)
		}
	})
}

// P4.3 (R1, R2, R5): the error of CheckViews, ErrArg, ErrNone and ErrLoose, in this order.
func TestViewErrors(t *testing.T) {
	places := [][2]int{{least, 1}, {-1001, 1}, {1001, 1}, {over, 1}, {0, least}, {0, -1}, {0, 0}, {0, 1001}, {0, over}, {over, over}}
	bad := append(invalidViews(), view(0, 0, 0, 0))
	for _, v := range bad {
		for _, l := range [][]api.View{{v}, append(two(), v), slices.Repeat([]api.View{v}, api.MaxViews+1)} {
			want := api.ErrViews
			if len(l) > api.MaxViews {
				want = api.ErrMany
			}
			fails[int](t, "FirstBad", want)(lens.FirstBad(l))
			fails[api.Camera](t, "Calibrate", want)(lens.Calibrate(l))
			for _, p := range append(places, [2]int{0, 1}) {
				fails[api.Span](t, "Range", want)(lens.Range(l, p[0], p[1]))
			}
		}
	}
	for _, l := range [][]api.View{nil, two()[:1], two(), append(two(), view(0, 10, 0, 0))} {
		for _, p := range places {
			fails[api.Span](t, "Range", api.ErrArg)(lens.Range(l, p[0], p[1]))
		}
	}
	for _, p := range [][2]int{{-1000, 1}, {1000, 1}, {1000, 1000}, {-1000, 1000}} {
		must[api.Span](t)(lens.Range(two(), p[0], p[1]))
	}
}

// P4.7: each focal length and centre that fulfil the views are in the spans.
func TestModelsAreInside(t *testing.T) {
	eachViews(14, func(d dice, l []api.View) {
		c, e := lens.Calibrate(l)
		if e != api.OK {
			return
		}
		list := corners(l)
		a, b := list[d.Intn(len(list))], list[d.Intn(len(list))]
		m := model{times(plus(a.f, b.f), ratio(1, 2)), times(plus(a.c, b.c), ratio(1, 2))}
		x, z := d.target()
		s := must[api.Span](t)(lens.Range(l, x, z))
		if !m.fulfils(l) || !has(c.F, m.f) || !has(c.C, m.c) || !has(s, m.at(ratio(x, z))) {
			t.Fatal(l, m, c, x, z, s)
		}
	})
}

// P4.7: a view that is added contradicts the others exactly if its Lo to Hi does not meet the range of its tangent.
func TestAddedView(t *testing.T) {
	seen := make(map[bool]int)
	eachViews(15, func(d dice, l []api.View) {
		if len(l) == api.MaxViews || state(l) != api.OK {
			return
		}
		added := d.views(1)[0]
		s := must[api.Span](t)(lens.Range(l, added.X, added.Z))
		// Views that end just at the range, and just before it or behind it, matter most.
		switch off := d.Intn(2); d.Intn(3) {
		case 0:
			added.Hi = max(-api.MaxAt, min(floor(s.Lo)+1-off, api.MaxAt))
			added.Lo = max(-api.MaxAt, added.Hi-d.Intn(3))
		case 1:
			added.Lo = max(-api.MaxAt, min(floor(s.Hi)+off, api.MaxAt))
			added.Hi = min(api.MaxAt, added.Lo+d.Intn(3))
		}
		meets := inOrder(rat(s.Lo), ratio(added.Hi, 1)) && inOrder(ratio(added.Lo, 1), rat(s.Hi))
		seen[meets]++
		n := must[int](t)(lens.FirstBad(append(slices.Clone(l), added)))
		if meets != (n == -1) || !meets && n != len(l) {
			t.Fatal(l, added, s, n)
		}
	})
	if seen[true] < 200 || seen[false] < 200 {
		t.Error(seen)
	}
}

// floor returns the greatest whole number that is at most a.
func floor(a api.Frac) int {
	n := new(big.Int).Div(big.NewInt(int64(a.Num)), big.NewInt(int64(a.Den)))
	return int(n.Int64())
}

// P4.7: views less some of them do not contradict each other either, and their spans are not narrower.
func TestFewerViews(t *testing.T) {
	eachViews(16, func(d dice, l []api.View) {
		if len(l) == 0 || state(l) == api.ErrNone {
			return
		}
		i := d.Intn(len(l))
		fewer := slices.Delete(slices.Clone(l), i, i+1)
		if n := must[int](t)(lens.FirstBad(fewer)); n != -1 {
			t.Fatal(l, i, n)
		}
		all, e := lens.Calibrate(l)
		some, f := lens.Calibrate(fewer)
		if e == api.ErrLoose && f == api.ErrLoose || e == api.OK && f == api.ErrLoose {
			return
		}
		if e != api.OK || f != api.OK || !covers(some.F, all.F) || !covers(some.C, all.C) {
			t.Fatal(l, i, all, e, some, f)
		}
		x, z := d.target()
		if a, b := must[api.Span](t)(lens.Range(fewer, x, z)), must[api.Span](t)(lens.Range(l, x, z)); !covers(a, b) {
			t.Fatal(l, i, x, z, a, b)
		}
	})
}

// P4.7: the order of views does not matter.
func TestOrderOfViews(t *testing.T) {
	eachViews(17, func(d dice, l []api.View) {
		other := slices.Clone(l)
		d.Shuffle(len(other), func(i, j int) { other[i], other[j] = other[j], other[i] })
		a, e := lens.Calibrate(l)
		b, f := lens.Calibrate(other)
		if a != b || e != f {
			t.Fatal(l, other, a, e, b, f)
		}
		x, z := d.target()
		r, e := lens.Range(l, x, z)
		s, f := lens.Range(other, x, z)
		if r != s || e != f {
			t.Fatal(l, other, x, z, r, e, s, f)
		}
	})
}
