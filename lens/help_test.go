package lens_test

import (
	"math/big"
	"math/rand"
	"testing"

	"sightbench/api"
	"sightbench/exact"
)

const (
	most  = api.MaxPart
	least = -1 << 63
	over  = 1<<63 - 1
)

// frac returns the fraction num / den without any of the functions that are tested.
func frac(num, den int) api.Frac { return api.Frac{Num: num, Den: den} }

func whole(n int) api.Frac { return frac(n, 1) }

func span(lo, hi api.Frac) api.Span { return api.Span{Lo: lo, Hi: hi} }

func wholes(lo, hi int) api.Span { return span(whole(lo), whole(hi)) }

// only returns the span of one number.
func only(n int) api.Span { return wholes(n, n) }

func rat(a api.Frac) *big.Rat { return big.NewRat(int64(a.Num), int64(a.Den)) }

func ratio(num, den int) *big.Rat { return big.NewRat(int64(num), int64(den)) }

func plus(x, y *big.Rat) *big.Rat { return new(big.Rat).Add(x, y) }

func minus(x, y *big.Rat) *big.Rat { return new(big.Rat).Sub(x, y) }

func times(x, y *big.Rat) *big.Rat { return new(big.Rat).Mul(x, y) }

func divided(x, y *big.Rat) *big.Rat { return new(big.Rat).Quo(x, y) }

// inOrder reports whether no number of a list is less than the one before it.
func inOrder(list ...*big.Rat) bool {
	for i := 1; i < len(list); i++ {
		if list[i-1].Cmp(list[i]) > 0 {
			return false
		}
	}
	return true
}

// reduced returns a fraction in lowest terms.
func reduced(num, den int) api.Frac {
	r := ratio(num, den)
	return frac(int(r.Num().Int64()), int(r.Denom().Int64()))
}

// equals reports whether a is a valid fraction of that value.
func equals(a api.Frac, r *big.Rat) bool {
	return exact.Check(a) == api.OK && rat(a).Cmp(r) == 0
}

// has reports whether a span has a number.
func has(s api.Span, r *big.Rat) bool { return inOrder(rat(s.Lo), r, rat(s.Hi)) }

// covers reports whether one span has all numbers of another one.
func covers(outer, inner api.Span) bool {
	return inOrder(rat(outer.Lo), rat(inner.Lo), rat(inner.Hi), rat(outer.Hi))
}

// points returns numbers of a span: both ends, and some between them.
func points(s api.Span) []*big.Rat {
	list := []*big.Rat{rat(s.Lo)}
	for i := 1; i <= 3; i++ {
		part := times(minus(rat(s.Hi), rat(s.Lo)), ratio(i, 3))
		list = append(list, plus(rat(s.Lo), part))
	}
	return list
}

// must returns what a call returned with OK.
func must[T any](t *testing.T) func(x T, e api.Errno) T {
	return func(x T, e api.Errno) T {
		t.Helper()
		if e != api.OK {
			t.Fatal(e)
		}
		return x
	}
}

// fails fails the test unless a call returned that error and a zero value.
func fails[T comparable](t *testing.T, name string, want api.Errno) func(x T, e api.Errno) {
	return func(x T, e api.Errno) {
		t.Helper()
		var zero T
		if x != zero || e != want {
			t.Fatalf("%s: %v, %v instead of %v", name, x, e, want)
		}
	}
}

// dice makes random values.
type dice struct{ *rand.Rand }

func newDice(seed int64) dice { return dice{rand.New(rand.NewSource(seed))} }

// from returns a number from lo to hi.
func (d dice) from(lo, hi int) int { return lo + d.Intn(hi-lo+1) }

// size returns a number from 1 to most, small ones as often as large ones.
func (d dice) size(most int) int {
	n := most
	for n > 1 && d.Intn(3) > 0 {
		n = (n + 1) / 2
	}
	return d.from(1, n)
}

// rising returns n increasing numbers from -limit to limit.
func (d dice) rising(n, limit int) []int {
	chosen := make(map[int]bool)
	for len(chosen) < n {
		chosen[d.from(-limit, limit)] = true
	}
	var list []int
	for i := -limit; i <= limit; i++ {
		if chosen[i] {
			list = append(list, i)
		}
	}
	return list
}

// table returns a valid table.
func (d dice) table() []api.Knot {
	n := d.from(2, api.MaxKnots)
	ats, tos := d.rising(n, d.from(8, api.MaxAt)), d.rising(n, d.from(8, api.MaxAt))
	var l []api.Knot
	for i := range n {
		l = append(l, api.Knot{At: ats[i], To: tos[i]})
	}
	return l
}

// fracIn returns a fraction from lo to hi with a Den of at most MaxDen.
func (d dice) fracIn(lo, hi int) api.Frac {
	den := d.size(api.MaxDen)
	return reduced(d.from(lo*den, hi*den), den)
}

func (d dice) light() api.Light {
	return api.Light{Exposure: d.size(api.MaxExposure), Dark: d.from(0, api.MaxDark), Noise: d.from(0, d.size(api.MaxNoise))}
}

// invalid returns fractions that are not valid.
func invalid() []api.Frac {
	return []api.Frac{
		{}, {Num: 1}, {Num: 1, Den: -1}, {Num: -1, Den: -2}, {Num: 0, Den: 2}, {Num: 2, Den: 4}, {Num: -3, Den: 9}, {Num: 0, Den: -1},
		{Num: most + 1, Den: 1}, {Num: 1, Den: most + 1}, {Num: over, Den: 1}, {Num: least, Den: 1}, {Num: 1, Den: least}, {Num: least, Den: least},
	}
}

// invalidSpans returns spans that are not valid.
func invalidSpans() []api.Span {
	list := []api.Span{{}, wholes(1, 0), span(frac(-1, 3), frac(-1, 2)), wholes(most, -most)}
	for _, x := range invalid() {
		list = append(list, span(x, whole(most)), span(whole(-most), x), span(x, x))
	}
	return list
}
