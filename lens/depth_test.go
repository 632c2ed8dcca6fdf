package lens_test

import (
	"math/big"
	"testing"

	"sightbench/api"
	"sightbench/lens"
)

func camera(f, c api.Span) api.Camera { return api.Camera{F: f, C: c} }

// known is the camera of the document's examples.
func known() api.Camera { return camera(only(96), only(100)) }

// fitted returns the fraction of a value, or ErrMany.
func fitted(r *big.Rat) (api.Frac, api.Errno) {
	limit := big.NewInt(most)
	if r.Num().CmpAbs(limit) > 0 || r.Denom().Cmp(limit) > 0 {
		return api.Frac{}, api.ErrMany
	}
	return frac(int(r.Num().Int64()), int(r.Denom().Int64())), api.OK
}

// fit returns the span from the least to the greatest of some values, or ErrMany if one does not fit.
func fit(list ...*big.Rat) (api.Span, api.Errno) {
	lo, hi := list[0], list[0]
	for _, x := range list {
		if _, e := fitted(x); e != api.OK {
			return api.Span{}, e
		}
		if x.Cmp(lo) < 0 {
			lo = x
		}
		if x.Cmp(hi) > 0 {
			hi = x
		}
	}
	a, _ := fitted(lo)
	b, _ := fitted(hi)
	return span(a, b), api.OK
}

// differences and quotients return the results of exact.SubSpans and exact.DivSpans for valid spans, of which the second one of quotients does not contain 0.
func differences(a, b api.Span) (api.Span, api.Errno) {
	return fit(minus(rat(a.Lo), rat(b.Hi)), minus(rat(a.Hi), rat(b.Lo)))
}

func quotients(a, b api.Span) (api.Span, api.Errno) {
	var list []*big.Rat
	for _, x := range []api.Frac{a.Lo, a.Hi} {
		for _, y := range []api.Frac{b.Lo, b.Hi} {
			list = append(list, divided(rat(x), rat(y)))
		}
	}
	return fit(list...)
}

// tangents returns what Tangent has to return for valid arguments.
func tangents(c api.Camera, u api.Span) (api.Span, api.Errno) {
	off, e := differences(u, c.C)
	if e != api.OK {
		return api.Span{}, e
	}
	return quotients(off, c.F)
}

// depths returns what Depth has to return for valid arguments.
func depths(a, b api.Camera, base int, u, v api.Span) (api.Span, api.Errno) {
	left, e := tangents(a, u)
	if e != api.OK {
		return api.Span{}, e
	}
	right, e := tangents(b, v)
	if e != api.OK {
		return api.Span{}, e
	}
	step, e := differences(left, right)
	if e != api.OK {
		return api.Span{}, e
	}
	if rat(step.Lo).Sign() <= 0 {
		return api.Span{}, api.ErrNone
	}
	return quotients(only(base), step)
}

// spanAt returns a span with ends near a number.
func (d dice) spanAt(n, slack int) api.Span {
	den := d.size(20)
	lo, hi := n*den-d.Intn(slack*den+1), n*den+d.Intn(slack*den+1)
	return span(reduced(lo, den), reduced(hi, den))
}

// scene returns two cameras, and where they see something that is mostly in front of both.
func (d dice) scene() (a, b api.Camera, base int, u, v api.Span) {
	f, base, far := d.from(10, 3000), d.size(api.MaxPlace), d.from(1, 2000)
	left := d.from(-2000, 2000)
	place := func(c, x int) int { return c + f*x/far }
	slack := d.size(8)
	a = camera(d.spanAt(f, d.size(9)), d.spanAt(50, slack))
	b = camera(d.spanAt(f, d.size(9)), d.spanAt(-20, slack))
	return a, b, base, d.spanAt(place(50, left+base), slack), d.spanAt(place(-20, left), slack)
}

// P4.4: the document's example, and some in which a camera is wrong or sees nothing in front of it.
func TestDepthExamples(t *testing.T) {
	if s := must[api.Span](t)(lens.Tangent(known(), only(148))); s != span(frac(1, 2), frac(1, 2)) {
		t.Error(s)
	}
	if s := must[api.Span](t)(lens.Depth(known(), known(), 10, only(148), only(124))); s != only(40) {
		t.Error(s)
	}
	fails[api.Span](t, "behind", api.ErrNone)(lens.Depth(known(), known(), 10, only(124), only(148)))
	fails[api.Span](t, "far", api.ErrNone)(lens.Depth(known(), known(), 10, only(124), only(124)))
	fails[api.Span](t, "just far", api.ErrNone)(lens.Depth(known(), known(), 10, wholes(124, 148), only(124)))
	// From tangents 3/2 to 3 and from 0 to 1: their difference is from 1/2 to 3.
	wide := camera(wholes(1, 2), only(0))
	if s := must[api.Span](t)(lens.Depth(wide, wide, 6, only(3), wholes(0, 1))); s != wholes(2, 12) {
		t.Error(s)
	}
	if s := must[api.Span](t)(lens.Tangent(camera(wholes(2, 4), wholes(1, 3)), wholes(2, 7))); s != span(frac(-1, 2), whole(3)) {
		t.Error(s)
	}
}

// P4.4: Tangent has the results of the calls that it names.
func TestTangent(t *testing.T) {
	d := newDice(20)
	for range 5000 {
		c, u := camera(d.spanAt(d.from(10, 500), d.size(9)), d.spanAt(d.from(-9, 9), 5)), d.spanAt(d.from(-30, 30), 9)
		want, f := tangents(c, u)
		if s, e := lens.Tangent(c, u); s != want || e != f {
			t.Fatalf("Tangent(%v, %v): %v, %v instead of %v, %v", c, u, s, e, want, f)
		}
	}
}

// P4.4
func TestDepth(t *testing.T) {
	d := newDice(21)
	seen := make(map[api.Errno]int)
	for range 5000 {
		a, b, base, u, v := d.scene()
		want, f := depths(a, b, base, u, v)
		seen[f]++
		if s, e := lens.Depth(a, b, base, u, v); s != want || e != f {
			t.Fatalf("Depth(%v, %v, %v, %v, %v): %v, %v instead of %v, %v", a, b, base, u, v, s, e, want, f)
		}
	}
	if seen[api.OK] < 500 || seen[api.ErrNone] < 500 {
		t.Error(seen)
	}
}

// badCameras returns cameras for which Tangent returns ErrBad.
func badCameras() []api.Camera {
	list := []api.Camera{{}, camera(wholes(2, 1), only(-1)), camera(wholes(0, 0), only(0)), camera(wholes(0, 9), only(0)), camera(wholes(-1, 9), only(0)), camera(wholes(-9, -1), only(0)), camera(span(frac(-1, most), whole(1)), only(0))}
	for _, s := range invalidSpans() {
		list = append(list, camera(s, only(0)), camera(s, only(-1)), camera(s, only(1)), camera(only(1), s), camera(s, s))
	}
	return list
}

// P4.4 (R1, R2)
func TestTangentErrors(t *testing.T) {
	for _, c := range badCameras() {
		// For some of them SubSpans would fail as well.
		for _, u := range []api.Span{only(0), {}, only(most), only(-most)} {
			fails[api.Span](t, "camera", api.ErrBad)(lens.Tangent(c, u))
		}
	}
	fails[api.Span](t, "camera first", api.ErrBad)(lens.Tangent(camera(only(0), only(-1)), only(most)))
	for _, u := range invalidSpans() {
		fails[api.Span](t, "place", api.ErrBad)(lens.Tangent(known(), u))
	}
	for _, x := range []struct {
		f, c, u api.Span
	}{
		{only(1), only(-1), only(most)},
		{only(1), only(1), only(-most)},
		{only(1), wholes(-1, 0), wholes(0, most)},
		{span(frac(1, 2), whole(1)), only(0), only(most)},
		{span(frac(1, 2), whole(1)), only(0), wholes(-most, 0)},
		{only(2), only(0), span(frac(1, most), whole(1))},
	} {
		fails[api.Span](t, "many", api.ErrMany)(lens.Tangent(camera(x.f, x.c), x.u))
	}
	if s := must[api.Span](t)(lens.Tangent(camera(wholes(1, most), only(0)), wholes(-most, most))); s != wholes(-most, most) {
		t.Error(s)
	}
	if s := must[api.Span](t)(lens.Tangent(camera(span(frac(1, most), whole(1)), only(0)), only(1))); s != wholes(1, most) {
		t.Error(s)
	}
}

// P4.4 (R1, R2): errors in their order.
func TestDepthErrors(t *testing.T) {
	bad, many := camera(only(0), only(0)), camera(only(1), only(-1))
	unit := camera(only(1), only(0))
	for _, base := range []int{least, -1, 0, api.MaxPlace + 1, over} {
		fails[api.Span](t, "base", api.ErrArg)(lens.Depth(known(), known(), base, only(148), only(124)))
		fails[api.Span](t, "base first", api.ErrArg)(lens.Depth(bad, many, base, only(most), only(most)))
	}
	for _, c := range badCameras() {
		fails[api.Span](t, "left", api.ErrBad)(lens.Depth(c, known(), 10, only(148), only(124)))
		fails[api.Span](t, "right", api.ErrBad)(lens.Depth(known(), c, 10, only(148), only(124)))
	}
	for _, s := range invalidSpans() {
		fails[api.Span](t, "left place", api.ErrBad)(lens.Depth(known(), known(), 10, s, only(124)))
		fails[api.Span](t, "right place", api.ErrBad)(lens.Depth(known(), known(), 10, only(148), s))
	}
	for i, x := range []struct {
		a, b api.Camera
		base int
		u, v api.Span
		want api.Errno
	}{
		{bad, many, 1, only(0), only(most), api.ErrBad},
		{many, bad, 1, only(most), only(0), api.ErrMany},
		{unit, bad, 1, only(0), only(0), api.ErrBad},
		{unit, many, 1, only(0), only(most), api.ErrMany},
		{unit, unit, 1, only(most), only(-1), api.ErrMany},
		// The difference is below 0 as well, but too large.
		{unit, unit, 1, only(-most), only(1), api.ErrMany},
		{unit, unit, 1, span(frac(1, most), frac(1, most)), span(frac(1, most-1), frac(1, most-1)), api.ErrMany},
		// The quotient is too large, but the difference comes first.
		{unit, unit, 2, span(frac(-1, most), frac(1, most)), only(0), api.ErrNone},
		{unit, unit, 2, span(frac(0, 1), frac(1, most)), only(0), api.ErrNone},
		{unit, unit, 2, span(frac(1, most), whole(1)), only(0), api.ErrMany},
		{unit, unit, 2, span(whole(1), whole(most)), only(0), api.OK},
		{unit, unit, 1, span(frac(1, most), whole(most)), only(0), api.OK},
		{unit, unit, 1000, span(whole(1), whole(1)), only(0), api.OK},
	} {
		s, e := lens.Depth(x.a, x.b, x.base, x.u, x.v)
		if e != x.want || e != api.OK && s != (api.Span{}) {
			t.Error(i, s, e)
		}
	}
}

// P4.8: for all places and cameras within the spans the depth is in the result.
func TestDepthIsInside(t *testing.T) {
	d := newDice(22)
	for range 200 {
		a, b, base, u, v := d.scene()
		s, e := lens.Depth(a, b, base, u, v)
		if e != api.OK {
			continue
		}
		pick := func(s api.Span) *big.Rat { return points(s)[d.Intn(4)] }
		for range 60 {
			left := divided(minus(pick(u), pick(a.C)), pick(a.F))
			right := divided(minus(pick(v), pick(b.C)), pick(b.F))
			if depth := divided(ratio(base, 1), minus(left, right)); !has(s, depth) {
				t.Fatal(a, b, base, u, v, s, depth)
			}
		}
	}
}
