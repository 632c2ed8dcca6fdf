package exact_test

import (
	"math/big"
	"math/rand"
	"testing"

	"sightbench/api"
	"sightbench/exact"
)

// P1.1
func TestMake(t *testing.T) {
	for _, x := range []struct {
		num, den int
		want     api.Frac
		e        api.Errno
	}{
		{6, -4, frac(-3, 2), api.OK},
		{-6, -4, frac(3, 2), api.OK},
		{0, 5, whole(0), api.OK},
		{0, -1, whole(0), api.OK},
		{0, least, whole(0), api.OK},
		{1, 0, api.Frac{}, api.ErrZero},
		{0, 0, api.Frac{}, api.ErrZero},
		{least, 0, api.Frac{}, api.ErrZero},
		{least, 2, api.Frac{}, api.ErrMany},
		{least, 1, api.Frac{}, api.ErrMany},
		{least, -1, api.Frac{}, api.ErrMany},
		{least, 4, whole(-1 << 61), api.OK},
		{least, -4, whole(1 << 61), api.OK},
		{least, least, whole(1), api.OK},
		{1, least, api.Frac{}, api.ErrMany},
		{4, least, frac(-1, 1<<61), api.OK},
		{over, least, api.Frac{}, api.ErrMany},
		{over, over, whole(1), api.OK},
		{over, 7, whole(over / 7), api.OK},
		{most, 1, whole(most), api.OK},
		{-most, 1, whole(-most), api.OK},
		{most + 1, 1, api.Frac{}, api.ErrMany},
		{-most - 1, 1, api.Frac{}, api.ErrMany},
		{-1, -most, frac(1, most), api.OK},
		{1, most + 1, api.Frac{}, api.ErrMany},
		{most, most + 1, api.Frac{}, api.ErrMany},
		{2 * (most / 3), 2 * most, frac(1, 3), api.OK},
	} {
		if a, e := exact.Make(x.num, x.den); a != x.want || e != x.e {
			t.Errorf("Make(%d, %d): %v, %v", x.num, x.den, a, e)
		}
	}
	r := rand.New(rand.NewSource(3))
	for range 3000 {
		num, den := int(r.Uint64()>>r.Intn(64)), int(r.Uint64()>>r.Intn(64))
		if den != 0 {
			a, e := exact.Make(num, den)
			sameFrac(t, "Make", a, e, big.NewRat(int64(num), int64(den)))
		}
	}
}

// P1.1
func TestCheck(t *testing.T) {
	for _, a := range invalid() {
		if e := exact.Check(a); e != api.ErrBad {
			t.Errorf("Check(%v): %v", a, e)
		}
	}
	for _, a := range pool() {
		if e := exact.Check(a); e != api.OK {
			t.Errorf("Check(%v): %v", a, e)
		}
	}
}

// P1.1
func TestCompare(t *testing.T) {
	for _, x := range []struct {
		a, b api.Frac
		want int
	}{
		{frac(-1, 2), frac(-1, 3), -1},
		{frac(1, 2), frac(1, 3), 1},
		{frac(2, 3), frac(2, 3), 0},
		{whole(0), whole(0), 0},
		{whole(most), whole(-most), 1},
		{frac(most-1, most), frac(most-2, most-1), 1},
		{frac(1, most), frac(1, most-1), -1},
		{frac(-1, most), whole(0), -1},
	} {
		if n, e := exact.Compare(x.a, x.b); n != x.want || e != api.OK {
			t.Errorf("Compare(%v, %v): %d, %v", x.a, x.b, n, e)
		}
	}
	pairs(func(a, b api.Frac) {
		if n, e := exact.Compare(a, b); n != rat(a).Cmp(rat(b)) || e != api.OK {
			t.Fatalf("Compare(%v, %v): %d, %v", a, b, n, e)
		}
	})
}

// P1.2
func TestArithmetic(t *testing.T) {
	for _, x := range []struct {
		name string
		how  op
		a, b api.Frac
		want api.Frac
		e    api.Errno
	}{
		{"Add", exact.Add, frac(1, 2), frac(1, 3), frac(5, 6), api.OK},
		{"Add", exact.Add, whole(most), whole(1), api.Frac{}, api.ErrMany},
		{"Add", exact.Add, whole(-most), whole(-1), api.Frac{}, api.ErrMany},
		{"Add", exact.Add, whole(most), whole(-most), whole(0), api.OK},
		{"Add", exact.Add, frac(-1, most), frac(1, most), whole(0), api.OK},
		{"Add", exact.Add, frac(1, most), frac(1, most-1), api.Frac{}, api.ErrMany},
		{"Add", exact.Add, frac(1, 2*3*5), frac(1, 2*3*7), frac(2, 5*7), api.OK},
		{"Sub", exact.Sub, frac(1, 2), frac(1, 3), frac(1, 6), api.OK},
		{"Sub", exact.Sub, whole(-most), whole(1), api.Frac{}, api.ErrMany},
		{"Sub", exact.Sub, whole(most), whole(most), whole(0), api.OK},
		{"Sub", exact.Sub, whole(most - 1), whole(-1), whole(most), api.OK},
		{"Mul", exact.Mul, frac(2, 3), frac(3, 4), frac(1, 2), api.OK},
		{"Mul", exact.Mul, frac(1, most), frac(1, 2), api.Frac{}, api.ErrMany},
		{"Mul", exact.Mul, frac(most, 2), frac(2, most), whole(1), api.OK},
		{"Mul", exact.Mul, whole(-1 << 31), whole(1 << 31), api.Frac{}, api.ErrMany},
		{"Mul", exact.Mul, whole(-1 << 31), whole(1 << 30), whole(-1 << 61), api.OK},
		{"Mul", exact.Mul, whole(0), frac(-2, most), whole(0), api.OK},
		{"Div", exact.Div, frac(1, 2), frac(-3, 4), frac(-2, 3), api.OK},
		{"Div", exact.Div, whole(1), whole(0), api.Frac{}, api.ErrZero},
		{"Div", exact.Div, whole(0), whole(0), api.Frac{}, api.ErrZero},
		{"Div", exact.Div, whole(0), frac(-5, 7), whole(0), api.OK},
		{"Div", exact.Div, whole(most), frac(1, 2), api.Frac{}, api.ErrMany},
		{"Div", exact.Div, whole(-most), whole(-most), whole(1), api.OK},
		{"Div", exact.Div, whole(1), whole(-most), frac(-1, most), api.OK},
		{"Div", exact.Div, frac(1, 2), whole(most), api.Frac{}, api.ErrMany},
	} {
		if y, e := x.how(x.a, x.b); y != x.want || e != x.e {
			t.Errorf("%s(%v, %v): %v, %v", x.name, x.a, x.b, y, e)
		}
	}
	pairs(func(a, b api.Frac) {
		sum, e := exact.Add(a, b)
		sameFrac(t, "Add", sum, e, new(big.Rat).Add(rat(a), rat(b)))
		difference, e := exact.Sub(a, b)
		sameFrac(t, "Sub", difference, e, new(big.Rat).Sub(rat(a), rat(b)))
		product, e := exact.Mul(a, b)
		sameFrac(t, "Mul", product, e, new(big.Rat).Mul(rat(a), rat(b)))
		if b.Num != 0 {
			quotient, e := exact.Div(a, b)
			sameFrac(t, "Div", quotient, e, new(big.Rat).Quo(rat(a), rat(b)))
		}
	})
}

// P1.3, P1.9
func TestWhole(t *testing.T) {
	for _, x := range []struct {
		a           api.Frac
		floor, ceil int
	}{
		{frac(-7, 2), -4, -3}, {frac(7, 2), 3, 4}, {whole(4), 4, 4}, {whole(-4), -4, -4}, {whole(0), 0, 0}, {frac(1, most), 0, 1}, {frac(-1, most), -1, 0},
		{whole(most), most, most}, {whole(-most), -most, -most}, {frac(-most, 2), -1 << 61, 1 - 1<<61}, {frac(most, 2), 1<<61 - 1, 1 << 61}, {frac(most-1, most), 0, 1},
	} {
		n, e := exact.Floor(x.a)
		m, f := exact.Ceil(x.a)
		if n != x.floor || m != x.ceil || e != api.OK || f != api.OK {
			t.Errorf("%v: Floor %d, %v, Ceil %d, %v", x.a, n, e, m, f)
		}
	}
	for _, a := range pool() {
		n, e := exact.Floor(a)
		m, f := exact.Ceil(a)
		if e != api.OK || f != api.OK {
			t.Fatal(a, e, f)
		}
		below := new(big.Rat).Sub(rat(a), rat(whole(n)))
		above := new(big.Rat).Sub(rat(whole(m)), rat(a))
		one := big.NewRat(1, 1)
		if below.Sign() < 0 || below.Cmp(one) >= 0 || above.Sign() < 0 || above.Cmp(one) >= 0 {
			t.Errorf("%v: Floor %d, Ceil %d", a, n, m)
		}
	}
}

// P1.7
func TestLawsOfThree(t *testing.T) {
	do := func(how op, a, b api.Frac) api.Frac {
		y, e := how(a, b)
		if e != api.OK {
			t.Fatal(a, b, e)
		}
		return y
	}
	list := small()
	for _, a := range list {
		for _, b := range list {
			for _, c := range list {
				if do(exact.Add, do(exact.Add, a, b), c) != do(exact.Add, a, do(exact.Add, b, c)) {
					t.Fatal("sums do not associate", a, b, c)
				}
				if do(exact.Mul, do(exact.Mul, a, b), c) != do(exact.Mul, a, do(exact.Mul, b, c)) {
					t.Fatal("products do not associate", a, b, c)
				}
				if do(exact.Mul, a, do(exact.Add, b, c)) != do(exact.Add, do(exact.Mul, a, b), do(exact.Mul, a, c)) {
					t.Fatal("products do not distribute", a, b, c)
				}
			}
		}
	}
}

// P1.7
func TestLawsOfTwo(t *testing.T) {
	pairs(func(a, b api.Frac) {
		sum, e := exact.Add(a, b)
		if back, f := exact.Add(b, a); back != sum || f != e {
			t.Fatal("sums do not commute", a, b)
		}
		if e == api.OK {
			if x, f := exact.Sub(sum, b); x != a || f != api.OK {
				t.Fatal("a sum less a number", a, b, x, f)
			}
		}
		product, e := exact.Mul(a, b)
		if back, f := exact.Mul(b, a); back != product || f != e {
			t.Fatal("products do not commute", a, b)
		}
		if e == api.OK && b.Num != 0 {
			if x, f := exact.Div(product, b); x != a || f != api.OK {
				t.Fatal("a product divided by a factor", a, b, x, f)
			}
		}
	})
}

// P1.7
func TestOrder(t *testing.T) {
	before := func(a, b api.Frac) int {
		n, e := exact.Compare(a, b)
		if e != api.OK {
			t.Fatal(a, b, e)
		}
		return n
	}
	list := small()
	for _, a := range list {
		for _, b := range list {
			n := before(a, b)
			if n != -before(b, a) || (n == 0) != (a == b) {
				t.Fatal("no total order", a, b)
			}
			for _, c := range list {
				if n <= 0 && before(b, c) <= 0 && before(a, c) > 0 {
					t.Fatal("not transitive", a, b, c)
				}
				x, _ := exact.Add(a, c)
				y, _ := exact.Add(b, c)
				if before(x, y) != n {
					t.Fatal("sums do not keep the order", a, b, c)
				}
				x, _ = exact.Mul(a, c)
				y, _ = exact.Mul(b, c)
				if c.Num > 0 && before(x, y) != n {
					t.Fatal("products do not keep the order", a, b, c)
				}
			}
		}
	}
}
