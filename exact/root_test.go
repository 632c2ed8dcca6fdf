package exact_test

import (
	"math/big"
	"math/rand"
	"testing"

	"sightbench/api"
	"sightbench/exact"
)

// P1.6
func TestRootExamples(t *testing.T) {
	for _, x := range []struct {
		a      api.Frac
		scale  int
		lo, hi api.Frac
	}{
		{whole(2), 10, frac(7, 5), frac(3, 2)},
		{frac(9, 4), 2, frac(3, 2), frac(3, 2)},
		{frac(9, 4), 1, whole(1), whole(2)},
		{whole(0), 7, whole(0), whole(0)},
		{whole(1), 1, whole(1), whole(1)},
		{whole(4), api.MaxScale, whole(2), whole(2)},
		{frac(1, most), 1, whole(0), whole(1)},
		{frac(1, most), api.MaxScale, whole(0), frac(1, api.MaxScale)},
		{frac(4, 9), 3, frac(2, 3), frac(2, 3)},
		{frac(4, 9), 2, frac(1, 2), whole(1)},
		{frac(4, 9), 5, frac(3, 5), frac(4, 5)},
		{whole(2147483647 * 2147483647), 1, whole(2147483647), whole(2147483647)},
		{whole(most), 1, whole(2147483647), whole(2147483648)},
		{whole(most), api.MaxScale, frac(1<<46-1, 1<<15), whole(1 << 31)},
		{whole(1<<60 + 1), api.MaxScale, whole(1 << 30), frac(1<<45+1, 1<<15)},
	} {
		s, e := exact.Root(x.a, x.scale)
		if s != span(x.lo, x.hi) || e != api.OK {
			t.Errorf("Root(%v, %d): %v, %v", x.a, x.scale, s, e)
		}
	}
}

// P1.6
func TestRootErrors(t *testing.T) {
	for _, x := range []struct {
		a     api.Frac
		scale int
		e     api.Errno
	}{
		{whole(2), 0, api.ErrArg}, {whole(2), -1, api.ErrArg}, {whole(2), least, api.ErrArg}, {whole(2), over, api.ErrArg}, {whole(2), api.MaxScale + 1, api.ErrArg},
		{whole(-1), 1, api.ErrArg}, {frac(-1, most), 1, api.ErrArg}, {whole(-most), 0, api.ErrArg}, {whole(0), 0, api.ErrArg},
		{frac(2, 4), 0, api.ErrBad}, {frac(-2, 4), 1, api.ErrBad}, {api.Frac{}, 1, api.ErrBad},
	} {
		if s, e := exact.Root(x.a, x.scale); s != (api.Span{}) || e != x.e {
			t.Errorf("Root(%v, %d): %v, %v", x.a, x.scale, s, e)
		}
	}
}

// roots calls see for fractions from 0 on, of which many are squares or close to one, and scales.
func roots(see func(a api.Frac, scale int)) {
	scales := []int{1, 2, 3, 7, 10, 12, 255, 1<<15 - 1, 1 << 15}
	for _, a := range pool() {
		if a.Num >= 0 {
			for _, scale := range scales {
				see(a, scale)
			}
		}
	}
	r := rand.New(rand.NewSource(4))
	for range 2000 {
		num, den := 1+r.Intn(1<<(1+r.Intn(30))), 1+r.Intn(1<<(1+r.Intn(30)))
		for near := -1; near <= 1; near++ {
			a := reduced(num*num+near, den*den)
			see(a, scales[r.Intn(len(scales))])
			see(a, 1+r.Intn(api.MaxScale))
			see(a, 1+(den-1)%api.MaxScale)
		}
	}
}

// P1.6, P1.9
func TestRoot(t *testing.T) {
	exactly := 0
	roots(func(a api.Frac, scale int) {
		square := new(big.Rat).Mul(rat(a), big.NewRat(int64(scale*scale), 1))
		lower := new(big.Int).Sqrt(new(big.Int).Quo(square.Num(), square.Denom()))
		upper := new(big.Int).Add(lower, big.NewInt(1))
		if new(big.Rat).SetInt(new(big.Int).Mul(lower, lower)).Cmp(square) == 0 {
			exactly++
			upper = lower
		}
		lo, e := fitted(new(big.Rat).SetFrac(lower, big.NewInt(int64(scale))))
		hi, f := fitted(new(big.Rat).SetFrac(upper, big.NewInt(int64(scale))))
		if e != api.OK || f != api.OK {
			t.Fatal(a, scale, e, f)
		}
		if s, e := exact.Root(a, scale); s != span(lo, hi) || e != api.OK {
			t.Fatalf("Root(%v, %d): %v, %v instead of %v, %v", a, scale, s, e, lo, hi)
		}
	})
	if exactly < 100 {
		t.Errorf("only %d roots are exact", exactly)
	}
}

// P1.9
func TestRootContains(t *testing.T) {
	roots(func(a api.Frac, scale int) {
		s, e := exact.Root(a, scale)
		lo, hi := rat(s.Lo), rat(s.Hi)
		width := new(big.Rat).Sub(hi, lo)
		if e != api.OK || lo.Mul(lo, lo).Cmp(rat(a)) > 0 || hi.Mul(hi, hi).Cmp(rat(a)) < 0 || width.Cmp(big.NewRat(1, int64(scale))) > 0 {
			t.Fatal(a, scale, s, e)
		}
	})
}
