package gauge_test

import (
	"math/big"
	"math/rand"
	"testing"

	"sightbench/api"
)

const (
	most  = api.MaxPart
	least = -1 << 63
	over  = 1<<63 - 1
)

// frac returns the fraction num / den without any of the functions that are tested.
func frac(num, den int) api.Frac { return api.Frac{Num: num, Den: den} }

func whole(n int) api.Frac { return frac(n, 1) }

func span(lo, hi api.Frac) api.Span { return api.Span{Lo: lo, Hi: hi} }

func wholes(lo, hi int) api.Span { return span(whole(lo), whole(hi)) }

// only returns the span of one number.
func only(n int) api.Span { return wholes(n, n) }

func rat(a api.Frac) *big.Rat { return big.NewRat(int64(a.Num), int64(a.Den)) }

func ratio(num, den int) *big.Rat { return big.NewRat(int64(num), int64(den)) }

func plus(x, y *big.Rat) *big.Rat { return new(big.Rat).Add(x, y) }

func minus(x, y *big.Rat) *big.Rat { return new(big.Rat).Sub(x, y) }

func times(x, y *big.Rat) *big.Rat { return new(big.Rat).Mul(x, y) }

func divided(x, y *big.Rat) *big.Rat { return new(big.Rat).Quo(x, y) }

// inOrder reports whether no number of a list is less than the one before it.
func inOrder(list ...*big.Rat) bool {
	for i := 1; i < len(list); i++ {
		if list[i-1].Cmp(list[i]) > 0 {
			return false
		}
	}
	return true
}

// has reports whether a span has a number.
func has(s api.Span, r *big.Rat) bool { return inOrder(rat(s.Lo), r, rat(s.Hi)) }

// covers reports whether one span has all numbers of another one.
func covers(outer, inner api.Span) bool {
	return inOrder(rat(outer.Lo), rat(inner.Lo), rat(inner.Hi), rat(outer.Hi))
}

// points returns numbers of a span: both ends, and some between them.
func points(s api.Span) []*big.Rat {
	list := []*big.Rat{rat(s.Lo)}
	for i := 1; i <= 3; i++ {
		part := times(minus(rat(s.Hi), rat(s.Lo)), ratio(i, 3))
		list = append(list, plus(rat(s.Lo), part))
	}
	return list
}

// fitted returns the fraction of a value, or ErrMany.
func fitted(r *big.Rat) (api.Frac, api.Errno) {
	limit := big.NewInt(most)
	if r.Num().CmpAbs(limit) > 0 || r.Denom().Cmp(limit) > 0 {
		return api.Frac{}, api.ErrMany
	}
	return frac(int(r.Num().Int64()), int(r.Denom().Int64())), api.OK
}

// reduced returns a fraction in lowest terms.
func reduced(num, den int) api.Frac {
	x, _ := fitted(ratio(num, den))
	return x
}

// fit returns the span from the least to the greatest of some values, or ErrMany if one does not fit.
func fit(list ...*big.Rat) (api.Span, api.Errno) {
	lo, hi := list[0], list[0]
	for _, x := range list {
		if _, e := fitted(x); e != api.OK {
			return api.Span{}, e
		}
		if x.Cmp(lo) < 0 {
			lo = x
		}
		if x.Cmp(hi) > 0 {
			hi = x
		}
	}
	a, _ := fitted(lo)
	b, _ := fitted(hi)
	return span(a, b), api.OK
}

// each returns the span of the results of how for the ends of two spans.
func each(a, b api.Span, how func(x, y *big.Rat) *big.Rat) (api.Span, api.Errno) {
	var list []*big.Rat
	for _, x := range []api.Frac{a.Lo, a.Hi} {
		for _, y := range []api.Frac{b.Lo, b.Hi} {
			list = append(list, how(rat(x), rat(y)))
		}
	}
	return fit(list...)
}

// must returns what a call returned with OK.
func must[T any](t *testing.T) func(x T, e api.Errno) T {
	return func(x T, e api.Errno) T {
		t.Helper()
		if e != api.OK {
			t.Fatal(e)
		}
		return x
	}
}

// fails fails the test unless a call returned that error and a zero value.
func fails[T comparable](t *testing.T, name string, want api.Errno) func(x T, e api.Errno) {
	return func(x T, e api.Errno) {
		t.Helper()
		var zero T
		if x != zero || e != want {
			t.Fatalf("%s: %v, %v instead of %v", name, x, e, want)
		}
	}
}

// real is a profile with values that need not be whole.
type real []*big.Rat

func reals(p []int) real {
	var list real
	for _, v := range p {
		list = append(list, ratio(v, 1))
	}
	return list
}

// at returns the value at a place, as it is defined.
func (p real) at(x *big.Rat) *big.Rat {
	i := int(new(big.Int).Div(x.Num(), x.Denom()).Int64())
	if i == len(p)-1 {
		return p[i]
	}
	return plus(p[i], times(minus(x, ratio(i, 1)), minus(p[i+1], p[i])))
}

// bright returns the bright places of which some are the least and the greatest ones from one index to another: indices, and places where the value is the threshold.
func (p real) bright(threshold, from, to int) []*big.Rat {
	level := ratio(threshold, 1)
	var list []*big.Rat
	for i := from; i <= to; i++ {
		may := []*big.Rat{ratio(i, 1)}
		if i < to && p[i].Cmp(p[i+1]) != 0 {
			may = append(may, plus(ratio(i, 1), divided(minus(level, p[i]), minus(p[i+1], p[i]))))
		}
		for _, x := range may {
			if inOrder(ratio(i, 1), x, ratio(min(i+1, to), 1)) && p.at(x).Cmp(level) >= 0 {
				list = append(list, x)
			}
		}
	}
	return list
}

// first and last return the least and the greatest bright place from one index to another, or nil.
func (p real) first(threshold, from, to int) *big.Rat {
	var found *big.Rat
	for _, x := range p.bright(threshold, from, to) {
		if found == nil || x.Cmp(found) < 0 {
			found = x
		}
	}
	return found
}

func (p real) last(threshold, from, to int) *big.Rat {
	var found *big.Rat
	for _, x := range p.bright(threshold, from, to) {
		if found == nil || x.Cmp(found) > 0 {
			found = x
		}
	}
	return found
}

// rise, fall and width return the first bright place from an index on, the last one up to an index, and the distance of the first from the last one, or nil.
func (p real) rise(threshold, from int) *big.Rat { return p.first(threshold, from, len(p)-1) }

func (p real) fall(threshold, to int) *big.Rat { return p.last(threshold, 0, to) }

func (p real) width(threshold int) *big.Rat {
	first := p.rise(threshold, 0)
	if first == nil {
		return nil
	}
	return minus(p.fall(threshold, len(p)-1), first)
}

// upper and lower return what Upper and Lower have to return.
func upper(p []int, noise int) []int {
	var list []int
	for _, v := range p {
		v += noise
		if v > 255 {
			v = 255
		}
		list = append(list, v)
	}
	return list
}

func lower(p []int, noise int) []int {
	var list []int
	for _, v := range p {
		v -= noise
		if v < 0 {
			v = 0
		}
		list = append(list, v)
	}
	return list
}

// dice makes random values.
type dice struct{ *rand.Rand }

func newDice(seed int64) dice { return dice{rand.New(rand.NewSource(seed))} }

// from returns a number from lo to hi.
func (d dice) from(lo, hi int) int { return lo + d.Intn(hi-lo+1) }

// profile returns a valid profile of n values: of some levels, or of any.
func (d dice) profile(n int) []int {
	levels := []int{0, d.Intn(256), d.Intn(256), 255}
	free := d.Intn(2) == 0
	var p []int
	for range n {
		if free {
			p = append(p, d.Intn(256))
		} else {
			p = append(p, levels[d.Intn(4)])
		}
	}
	return p
}

// length returns a number of values of a profile, small ones more often than large ones.
func (d dice) length() int {
	if d.Intn(4) == 0 {
		return d.from(2, api.MaxProfile)
	}
	return d.from(2, 6)
}

// noise returns a noise, small ones more often than large ones.
func (d dice) noise() int {
	if d.Intn(2) == 0 {
		return d.from(0, 3)
	}
	return d.from(0, api.MaxNoise)
}

// allowed returns a profile that the noise allows.
func (d dice) allowed(p []int, noise int) real {
	lo, hi := reals(lower(p, noise)), reals(upper(p, noise))
	way := d.Intn(4)
	var list real
	for i := range p {
		part := ratio(d.from(0, 12), 12)
		switch {
		case way == 0:
			part = ratio(i%2, 1)
		case way == 1:
			part = ratio(d.Intn(2), 1)
		}
		list = append(list, plus(lo[i], times(part, minus(hi[i], lo[i]))))
	}
	return list
}

// span returns a valid span whose ends have parts of up to limit.
func (d dice) span(limit int) api.Span {
	a, b := reduced(d.from(-limit, limit), d.from(1, limit)), reduced(d.from(-limit, limit), d.from(1, limit))
	if d.Intn(4) == 0 {
		b = a
	}
	s, _ := fit(rat(a), rat(b))
	return s
}

// badProfiles returns lists that are no valid profiles.
func badProfiles() [][]int {
	long := make([]int, api.MaxProfile+1)
	return [][]int{
		nil, {}, {5}, {255}, long, make([]int, 1000), {-1, 5}, {5, -1}, {256, 5}, {5, 256}, {1, 2, 3, least}, {over, 2, 3}, {0, 300, 0}, {0, least, 0},
	}
}

// badThresholds, badNoises and badIndices return numbers that are none, of which indices are for profiles of n values.
func badThresholds() []int { return []int{0, -1, 256, 257, least, over} }

func badNoises() []int { return []int{-1, 65, 66, 255, least, over} }

func badIndices(n int) []int { return []int{-1, n, n + 1, least, over} }

// invalid returns fractions that are not valid.
func invalid() []api.Frac {
	return []api.Frac{
		{}, {Num: 1}, {Num: 1, Den: -1}, {Num: -1, Den: -2}, {Num: 0, Den: 2}, {Num: 2, Den: 4}, {Num: -3, Den: 9}, {Num: 0, Den: -1},
		{Num: most + 1, Den: 1}, {Num: 1, Den: most + 1}, {Num: over, Den: 1}, {Num: least, Den: 1}, {Num: 1, Den: least}, {Num: least, Den: least},
	}
}

// invalidSpans returns spans that are not valid.
func invalidSpans() []api.Span {
	list := []api.Span{{}, wholes(1, 0), span(frac(-1, 3), frac(-1, 2)), wholes(most, -most)}
	for _, x := range invalid() {
		list = append(list, span(x, whole(most)), span(whole(-most), x), span(x, x))
	}
	return list
}
