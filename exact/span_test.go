package exact_test

import (
	"math/big"
	"testing"

	"sightbench/api"
	"sightbench/exact"
)

// P1.4
func TestCheckSpan(t *testing.T) {
	for _, s := range invalidSpans() {
		if e := exact.CheckSpan(s); e != api.ErrBad {
			t.Errorf("CheckSpan(%v): %v", s, e)
		}
	}
	for _, s := range append(spans(small()), span(whole(-most), whole(most)), span(whole(most), whole(most)), span(frac(1, most), frac(1, most-1)), span(frac(-1, most-1), frac(-1, most))) {
		if e := exact.CheckSpan(s); e != api.OK {
			t.Errorf("CheckSpan(%v): %v", s, e)
		}
	}
}

// P1.4
func TestIn(t *testing.T) {
	list := append(small(), whole(most), whole(-most), frac(1, most), frac(-1, most))
	for _, s := range spans(list) {
		for _, x := range list {
			want := rat(s.Lo).Cmp(rat(x)) <= 0 && rat(x).Cmp(rat(s.Hi)) <= 0
			if in, e := exact.In(s, x); in != want || e != api.OK {
				t.Fatalf("In(%v, %v): %v, %v", s, x, in, e)
			}
		}
	}
}

// P1.4, P1.5
func TestSpanExamples(t *testing.T) {
	w := func(lo, hi int) api.Span { return span(whole(lo), whole(hi)) }
	for _, x := range []struct {
		name string
		how  spanOp
		a, b api.Span
		want api.Span
		e    api.Errno
	}{
		{"Mul", exact.MulSpans, w(-1, 2), w(-3, 5), w(-6, 10), api.OK},
		{"Div", exact.DivSpans, w(1, 2), w(-4, -2), span(whole(-1), frac(-1, 4)), api.OK},
		{"Div", exact.DivSpans, w(1, 2), w(0, 1), api.Span{}, api.ErrZero},
		{"Div", exact.DivSpans, w(1, 2), w(-1, 0), api.Span{}, api.ErrZero},
		{"Div", exact.DivSpans, w(1, 2), w(-1, 1), api.Span{}, api.ErrZero},
		{"Div", exact.DivSpans, w(0, 0), w(0, 0), api.Span{}, api.ErrZero},
		{"Div", exact.DivSpans, w(most, most), span(frac(-1, 2), frac(1, 2)), api.Span{}, api.ErrZero},
		{"Div", exact.DivSpans, w(-1, 1), w(2, 4), span(frac(-1, 2), frac(1, 2)), api.OK},
		{"Div", exact.DivSpans, w(1, most), span(frac(1, 2), whole(1)), api.Span{}, api.ErrMany},
		{"Sub", exact.SubSpans, w(1, 2), w(0, 3), w(-2, 2), api.OK},
		{"Sub", exact.SubSpans, w(-most, 0), w(0, 1), api.Span{}, api.ErrMany},
		{"Sub", exact.SubSpans, w(0, most), w(-1, 0), api.Span{}, api.ErrMany},
		{"Sub", exact.SubSpans, w(-most, most), w(0, 0), w(-most, most), api.OK},
		{"Add", exact.AddSpans, w(1, 2), w(0, 3), w(1, 5), api.OK},
		{"Add", exact.AddSpans, w(0, most), w(0, 1), api.Span{}, api.ErrMany},
		{"Add", exact.AddSpans, w(-most, 0), w(-1, 0), api.Span{}, api.ErrMany},
		{"Add", exact.AddSpans, w(-most, 0), w(0, most), w(-most, most), api.OK},
		{"Add", exact.AddSpans, span(frac(1, most), whole(1)), span(whole(0), frac(1, 2)), span(frac(1, most), frac(3, 2)), api.OK},
		{"Meet", exact.Meet, w(1, 3), w(2, 5), w(2, 3), api.OK},
		{"Meet", exact.Meet, w(1, 2), w(3, 4), api.Span{}, api.ErrNone},
		{"Meet", exact.Meet, w(3, 4), w(1, 2), api.Span{}, api.ErrNone},
		{"Meet", exact.Meet, w(1, 2), w(2, 4), w(2, 2), api.OK},
		{"Meet", exact.Meet, w(0, 9), w(2, 4), w(2, 4), api.OK},
		{"Join", exact.Join, w(1, 2), w(3, 4), w(1, 4), api.OK},
		{"Join", exact.Join, w(3, 4), w(1, 2), w(1, 4), api.OK},
		{"Join", exact.Join, w(0, 9), w(3, 4), w(0, 9), api.OK},
	} {
		if s, e := x.how(x.a, x.b); s != x.want || e != x.e {
			t.Errorf("%s(%v, %v): %v, %v", x.name, x.a, x.b, s, e)
		}
	}
}

// ends returns the enclosure of numbers, or ErrMany if one does not fit.
func ends(list ...*big.Rat) (api.Span, api.Errno) {
	lo, hi := list[0], list[0]
	for _, x := range list {
		if _, e := fitted(x); e != api.OK {
			return api.Span{}, e
		}
		if x.Cmp(lo) < 0 {
			lo = x
		}
		if x.Cmp(hi) > 0 {
			hi = x
		}
	}
	a, _ := fitted(lo)
	b, _ := fitted(hi)
	return span(a, b), api.OK
}

func four(how func(z, x, y *big.Rat) *big.Rat, a, b api.Span) []*big.Rat {
	var list []*big.Rat
	for _, x := range []api.Frac{a.Lo, a.Hi} {
		for _, y := range []api.Frac{b.Lo, b.Hi} {
			list = append(list, how(new(big.Rat), rat(x), rat(y)))
		}
	}
	return list
}

// P1.5, P1.8: each end is the result for two ends, and one that is too large is an error.
func TestSpanResults(t *testing.T) {
	same := func(name string, how spanOp, a, b api.Span, want api.Span, e api.Errno) {
		if s, f := how(a, b); s != want || f != e {
			t.Fatalf("%s(%v, %v): %v, %v instead of %v, %v", name, a, b, s, f, want, e)
		}
	}
	list := []api.Frac{whole(0), whole(1), whole(-2), frac(1, 3), frac(-5, 7), whole(1 << 31), whole(-1 << 31), frac(-1, 1<<32), frac(3, 1<<40), whole(most), whole(-most), frac(1, most), frac(-1, most)}
	for _, a := range spans(list) {
		for _, b := range spans(list) {
			want, e := ends(new(big.Rat).Add(rat(a.Lo), rat(b.Lo)), new(big.Rat).Add(rat(a.Hi), rat(b.Hi)))
			same("AddSpans", exact.AddSpans, a, b, want, e)
			want, e = ends(new(big.Rat).Sub(rat(a.Lo), rat(b.Hi)), new(big.Rat).Sub(rat(a.Hi), rat(b.Lo)))
			same("SubSpans", exact.SubSpans, a, b, want, e)
			want, e = ends(four((*big.Rat).Mul, a, b)...)
			same("MulSpans", exact.MulSpans, a, b, want, e)
			want, e = api.Span{}, api.ErrZero
			if b.Lo.Num > 0 || b.Hi.Num < 0 {
				want, e = ends(four((*big.Rat).Quo, a, b)...)
			}
			same("DivSpans", exact.DivSpans, a, b, want, e)
			want, _ = ends(rat(a.Lo), rat(a.Hi), rat(b.Lo), rat(b.Hi))
			same("Join", exact.Join, a, b, want, api.OK)
		}
	}
}

// P1.4: Meet has exactly what both have.
func TestMeet(t *testing.T) {
	list := small()
	for _, a := range spans(list) {
		for _, b := range spans(list) {
			s, e := exact.Meet(a, b)
			some := false
			for _, x := range list {
				inA, _ := exact.In(a, x)
				inB, _ := exact.In(b, x)
				inBoth := false
				if e == api.OK {
					inBoth, _ = exact.In(s, x)
				}
				if inBoth != (inA && inB) {
					t.Fatalf("Meet(%v, %v): %v, %v and %v", a, b, s, e, x)
				}
				some = some || inBoth
			}
			if some != (e == api.OK) || !some && (s != api.Span{} || e != api.ErrNone) {
				t.Fatalf("Meet(%v, %v): %v, %v", a, b, s, e)
			}
		}
	}
}

// within reports whether one enclosure lies in another one.
func within(t *testing.T, inner, outer api.Span) bool {
	t.Helper()
	lo, e := exact.In(outer, inner.Lo)
	hi, f := exact.In(outer, inner.Hi)
	if e != api.OK || f != api.OK {
		t.Fatal(inner, outer, e, f)
	}
	return lo && hi
}

// P1.8
func TestContained(t *testing.T) {
	list := []api.Frac{whole(-3), frac(-3, 2), frac(-1, 3), whole(0), frac(1, 4), whole(1), frac(5, 2)}
	hows := []struct {
		one op
		all spanOp
	}{{exact.Add, exact.AddSpans}, {exact.Sub, exact.SubSpans}, {exact.Mul, exact.MulSpans}, {exact.Div, exact.DivSpans}}
	for _, a := range spans(list) {
		for _, b := range spans(list) {
			for i, how := range hows {
				outer, e := how.all(a, b)
				if e == api.ErrZero && i == 3 {
					continue
				}
				for _, x := range spans(list) {
					if !within(t, x, a) {
						continue
					}
					for _, y := range spans(list) {
						if !within(t, y, b) {
							continue
						}
						if inner, f := how.all(x, y); e != api.OK || f != api.OK || !within(t, inner, outer) {
							t.Fatal(i, a, b, outer, e, x, y, inner, f)
						}
						if z, f := how.one(x.Lo, y.Hi); f != api.OK || !within(t, span(z, z), outer) {
							t.Fatal(i, a, b, outer, x.Lo, y.Hi, z, f)
						}
					}
				}
			}
		}
	}
}
