package judge_test

import (
	"math/big"
	"testing"

	"sightbench/api"
	"sightbench/judge"
)

// atMost reports whether a chance is at most a limit.
func atMost(t *testing.T, n, k, j int, limit api.Frac) bool {
	t.Helper()
	is, e := judge.AtMost(n, k, j, limit)
	if e != api.OK {
		t.Fatal(n, k, j, limit, e)
	}
	return is
}

// bound returns the bound of a rate.
func bound(t *testing.T, n, k int, limit api.Frac) int {
	t.Helper()
	j, e := judge.Bound(n, k, limit)
	if e != api.OK {
		t.Fatal(n, k, limit, e)
	}
	return j
}

// near returns fractions that may be limits and are near a chance: the chance itself, if it may be one, and others on both sides.
func near(chance *big.Rat) []api.Frac {
	var list []api.Frac
	if den := chance.Denom(); den.Cmp(big.NewInt(api.MaxAlphaDen)) <= 0 && chance.Sign() > 0 && chance.Num().Cmp(den) < 0 {
		list = append(list, api.Frac{Num: int(chance.Num().Int64()), Den: int(den.Int64())})
	}
	for _, den := range []int{2, 255, 1 << 20, 1<<30 - 1, 1 << 30} {
		scaled := new(big.Int).Mul(chance.Num(), big.NewInt(int64(den)))
		num := int(scaled.Quo(scaled, chance.Denom()).Int64())
		for _, n := range []int{num - 1, num, num + 1} {
			if n > 0 && n < den {
				list = append(list, reduced(n, den))
			}
		}
	}
	return list
}

// P8.5: the document's examples, and some by hand.
func TestRateExamples(t *testing.T) {
	half := reduced(1, 2)
	for _, x := range []struct {
		n, k, j int
		limit   api.Frac
		want    bool
	}{
		{1, 0, 128, half, true}, {1, 0, 127, half, false}, {0, 0, 0, half, false}, {0, 0, 256, reduced(1<<30-1, 1<<30), false}, {5, 5, 256, reduced(99, 100), false}, {5, 4, 256, reduced(1, 1<<30), true}, {5, 0, 0, reduced(99, 100), false},
		{2, 0, 128, reduced(1, 4), true}, {2, 0, 128, reduced(1, 5), false}, {2, 1, 128, reduced(3, 4), true}, {2, 1, 128, reduced(2, 3), false}, {3, 1, 64, reduced(27, 32), true}, {3, 1, 64, reduced(26, 32), false},
	} {
		if is := atMost(t, x.n, x.k, x.j, x.limit); is != x.want {
			t.Error(x, is)
		}
	}
	for _, x := range []struct {
		n, k  int
		limit api.Frac
		want  int
	}{{1, 0, half, 128}, {3, 3, half, 256}, {10, 0, reduced(1, 20), 67}, {0, 0, half, 256}, {1, 0, reduced(255, 256), 1}, {1, 0, reduced(1, 256), 255}, {1, 0, reduced(1, 257), 256}, {1, 1, reduced(255, 256), 256}, {100, 99, reduced(1, 1<<30), 256}} {
		if j := bound(t, x.n, x.k, x.limit); j != x.want {
			t.Error(x, j)
		}
	}
}

// P8.5: limits at chances and on both sides of them, for all numbers of hits.
func TestAtMost(t *testing.T) {
	d := newDice(30)
	for n := range 101 {
		for _, j := range []int{0, 1, 255, 256, d.Intn(257), d.Intn(257), d.Intn(20), 128} {
			for k, chance := range chances(n, j) {
				limits := near(chance)
				for i, limit := range append(limits, d.chance()) {
					if n > 12 && i%5 != k%5 {
						continue
					}
					if is, want := atMost(t, n, k, j, limit), chance.Cmp(rat(limit)) <= 0; is != want {
						t.Fatal(n, k, j, limit, is, want)
					}
				}
			}
		}
	}
}

// P8.5, P8.10: bounds, from the chances of all rates; the chance falls with the rate.
func TestBound(t *testing.T) {
	d := newDice(31)
	for n := range 101 {
		if n > 12 && n%11 != 1 {
			continue
		}
		var all [][]*big.Rat
		for j := range 257 {
			all = append(all, chances(n, j))
		}
		for k := range n + 1 {
			limits := []api.Frac{d.chance(), d.chance(), reduced(1, 1<<30), reduced(1<<30-1, 1<<30), reduced(1, 20)}
			limits = append(limits, near(all[d.Intn(257)][k])...)
			for _, limit := range limits[:min(len(limits), 9)] {
				want := 0
				for want < 256 && all[want][k].Cmp(rat(limit)) > 0 {
					want++
				}
				if j := bound(t, n, k, limit); j != want {
					t.Fatal(n, k, limit, j, want)
				}
			}
			for j := 1; j < 257; j++ {
				if order := all[j-1][k].Cmp(all[j][k]); k < n && order <= 0 || k == n && order != 0 {
					t.Fatal("does not fall", n, k, j)
				}
			}
		}
	}
}

// P8.10: at most k hits are rare for each rate from the bound on, and for none below it.
func TestBoundsHold(t *testing.T) {
	d := newDice(32)
	for range 300 {
		n := d.from(0, 100)
		k, limit := d.from(0, n), d.chance()
		at := bound(t, n, k, limit)
		for _, j := range []int{d.Intn(257), d.Intn(257), at, max(0, at-1), min(256, at+1)} {
			if is := atMost(t, n, k, j, limit); is != (j >= at && k < n) {
				t.Fatal(n, k, j, limit, at, is)
			}
		}
	}
}

// P8.5: trials, rates and limits outside of their ranges.
func TestRateErrors(t *testing.T) {
	half := reduced(1, 2)
	both := func(n, k int, limit api.Frac) {
		t.Helper()
		is, e := judge.AtMost(n, k, 5, limit)
		fails(t, "AtMost", !is, e, api.ErrArg)
		j, e := judge.Bound(n, k, limit)
		fails(t, "Bound", j == 0, e, api.ErrArg)
	}
	for _, n := range beyond(0, 100) {
		both(n, 0, half)
		both(n, n, half)
	}
	for _, n := range []int{0, 1, 50, 100} {
		for _, k := range beyond(0, n) {
			both(n, k, half)
		}
	}
	for _, limit := range badChances() {
		both(10, 3, limit)
		both(0, 0, limit)
		both(1, 1, limit)
	}
	for _, j := range beyond(0, 256) {
		is, e := judge.AtMost(10, 3, j, half)
		fails(t, "AtMost", !is, e, api.ErrArg)
	}
	for _, limit := range []api.Frac{reduced(1, 1<<30), reduced(1<<30-1, 1<<30), half} {
		atMost(t, 100, 100, 256, limit)
		bound(t, 100, 0, limit)
	}
}
