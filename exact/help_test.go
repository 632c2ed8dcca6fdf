package exact_test

import (
	"math/big"
	"math/rand"
	"testing"

	"sightbench/api"
	"sightbench/exact"
)

const (
	most  = api.MaxPart
	least = -1 << 63
	over  = 1<<63 - 1
)

// op is a function of two fractions, spanOp one of two enclosures.
type (
	op     func(a, b api.Frac) (api.Frac, api.Errno)
	spanOp func(a, b api.Span) (api.Span, api.Errno)
)

// frac returns the fraction num / den without any of the functions that are tested.
func frac(num, den int) api.Frac { return api.Frac{Num: num, Den: den} }

func whole(n int) api.Frac { return frac(n, 1) }

func span(lo, hi api.Frac) api.Span { return api.Span{Lo: lo, Hi: hi} }

func rat(a api.Frac) *big.Rat { return big.NewRat(int64(a.Num), int64(a.Den)) }

// fitted returns the fraction with a value, or ErrMany.
func fitted(r *big.Rat) (api.Frac, api.Errno) {
	limit := big.NewInt(most)
	if r.Num().CmpAbs(limit) > 0 || r.Denom().Cmp(limit) > 0 {
		return api.Frac{}, api.ErrMany
	}
	return frac(int(r.Num().Int64()), int(r.Denom().Int64())), api.OK
}

// number returns a number of up to 62 bits, small ones as often as large ones.
func number(r *rand.Rand) int {
	n := int(r.Uint64() >> (2 + r.Intn(62)))
	if r.Intn(2) == 0 {
		return -n
	}
	return n
}

func reduced(num, den int) api.Frac {
	r := big.NewRat(int64(num), int64(den))
	return frac(int(r.Num().Int64()), int(r.Denom().Int64()))
}

func random(r *rand.Rand) api.Frac {
	den := number(r)
	if den == 0 {
		den = 1
	}
	return reduced(number(r), den)
}

// pool returns valid fractions: all of the edge values of both parts, and some others.
func pool() []api.Frac {
	edges := []int{1, 2, 3, 6, 10, 1<<31 - 1, 1 << 31, 1<<32 + 1, 1 << 61, most - 1, most}
	list := []api.Frac{whole(0)}
	for _, num := range edges {
		for _, den := range edges {
			if x := reduced(num, den); x.Num == num {
				list = append(list, x, frac(-num, den))
			}
		}
	}
	r := rand.New(rand.NewSource(1))
	for range 60 {
		list = append(list, random(r))
	}
	return list
}

// small returns fractions of which sums and products of several fit.
func small() []api.Frac {
	var list []api.Frac
	for den := 1; den <= 4; den++ {
		for num := -4; num <= 4; num++ {
			if reduced(num, den) == frac(num, den) {
				list = append(list, frac(num, den))
			}
		}
	}
	return list
}

// pairs calls see for pairs of valid fractions, of which many share factors, so that results fit once they are reduced.
func pairs(see func(a, b api.Frac)) {
	list := pool()
	for _, a := range list {
		for _, b := range list {
			see(a, b)
		}
	}
	r := rand.New(rand.NewSource(2))
	for range 3000 {
		k := r.Intn(61)
		common := 1 + int(r.Uint64()>>(64-k))
		left, right := 1+r.Intn(1<<(61-k)), 1+r.Intn(1<<(61-k))
		a, b := number(r), number(r)
		see(reduced(a, left*common), reduced(b, right*common))
		see(reduced(left*common, 1+r.Intn(most)), reduced(b, right*common))
	}
}

// spans returns valid enclosures with ends in a list.
func spans(list []api.Frac) []api.Span {
	var all []api.Span
	for _, lo := range list {
		for _, hi := range list {
			if rat(lo).Cmp(rat(hi)) <= 0 {
				all = append(all, span(lo, hi))
			}
		}
	}
	return all
}

// invalid returns fractions that are not valid.
func invalid() []api.Frac {
	return []api.Frac{
		{}, {Num: 1}, {Num: -1}, {Num: 1, Den: -1}, {Num: -1, Den: -2}, {Num: 0, Den: 2}, {Num: 0, Den: most}, {Num: 2, Den: 4}, {Num: -3, Den: 9},
		{Num: most, Den: most}, {Num: -most, Den: most}, {Num: most + 1, Den: 1}, {Num: -most - 1, Den: 1}, {Num: 1, Den: most + 1}, {Num: 3, Den: over},
		{Num: over, Den: 1}, {Num: least, Den: 1}, {Num: least, Den: 3}, {Num: 1, Den: least}, {Num: least, Den: least}, {Num: over, Den: least}, {Num: 0, Den: least}, {Num: over, Den: over - 1},
	}
}

// invalidSpans returns enclosures that are not valid.
func invalidSpans() []api.Span {
	list := []api.Span{{}, span(whole(1), whole(0)), span(frac(-1, 3), frac(-1, 2)), span(frac(1, most-1), frac(1, most)), span(whole(most), whole(-most))}
	for _, x := range invalid() {
		list = append(list, span(x, whole(most)), span(whole(-most), x), span(x, x))
	}
	return list
}

func sameFrac(t *testing.T, name string, got api.Frac, e api.Errno, want *big.Rat) {
	t.Helper()
	x, f := fitted(want)
	if got != x || e != f {
		t.Fatalf("%s: %v, %v instead of %v, %v", name, got, e, x, f)
	}
}

func parse(t *testing.T, s string) api.Frac {
	t.Helper()
	a, e := exact.Parse(s)
	if e != api.OK {
		t.Fatalf("Parse(%q): %v", s, e)
	}
	return a
}
