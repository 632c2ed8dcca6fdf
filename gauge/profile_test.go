package gauge_test

import (
	"math/big"
	"slices"
	"testing"

	"sightbench/api"
	"sightbench/gauge"
)

// seen is the profile of the document's examples.
func seen() []int { return []int{10, 10, 60, 110, 110, 30} }

// same fails the test unless a call returned a fraction, or ErrNone for nil.
func same(t *testing.T, name string, want *big.Rat) func(x api.Frac, e api.Errno) {
	return func(x api.Frac, e api.Errno) {
		t.Helper()
		if want == nil {
			fails[api.Frac](t, name, api.ErrNone)(x, e)
			return
		}
		if y, _ := fitted(want); x != y || e != api.OK {
			t.Fatalf("%s: %v, %v instead of %v", name, x, e, want)
		}
	}
}

// P5.1
func TestCheckProfile(t *testing.T) {
	for _, p := range badProfiles() {
		if e := gauge.CheckProfile(p); e != api.ErrProfile {
			t.Error(p, e)
		}
	}
	full := slices.Repeat([]int{0, 255}, 32)
	for _, p := range [][]int{{0, 0}, {255, 255}, {0, 255}, {1, 2, 3}, seen(), full, full[:63]} {
		if e := gauge.CheckProfile(p); e != api.OK {
			t.Error(p, e)
		}
	}
}

// P5.1
func TestPlacesByHand(t *testing.T) {
	for _, x := range []struct {
		p                   []int
		threshold, from, to int
		first, last         *big.Rat
	}{
		{seen(), 60, 0, 5, ratio(2, 1), ratio(37, 8)},
		{seen(), 85, 0, 5, ratio(5, 2), ratio(69, 16)},
		{seen(), 60, 2, 2, ratio(2, 1), ratio(2, 1)},
		{seen(), 60, 3, 1, ratio(3, 1), nil},
		{seen(), 60, 5, 4, nil, ratio(4, 1)},
		{seen(), 61, 1, 2, ratio(101, 50), nil},
		{seen(), 61, 2, 3, ratio(101, 50), ratio(3, 1)},
		{seen(), 10, 0, 0, ratio(0, 1), ratio(0, 1)},
		{seen(), 30, 4, 5, ratio(4, 1), ratio(5, 1)},
		{seen(), 30, 5, 1, ratio(5, 1), nil},
		{seen(), 110, 0, 5, ratio(3, 1), ratio(4, 1)},
		{seen(), 111, 0, 5, nil, nil},
		{seen(), 255, 5, 0, nil, nil},
		{[]int{0, 255}, 1, 0, 1, ratio(1, 255), ratio(1, 1)},
		{[]int{0, 255}, 255, 0, 0, ratio(1, 1), nil},
		{[]int{255, 0}, 1, 0, 1, ratio(0, 1), ratio(254, 255)},
		{[]int{255, 0}, 1, 1, 0, nil, ratio(0, 1)},
		{[]int{0, 0}, 1, 0, 1, nil, nil},
		{[]int{0, 9, 0, 9, 0}, 3, 0, 4, ratio(1, 3), ratio(11, 3)},
		{[]int{0, 9, 0, 9, 0}, 3, 1, 3, ratio(1, 1), ratio(3, 1)},
		{[]int{0, 9, 0, 9, 0}, 3, 2, 2, ratio(7, 3), ratio(5, 3)},
	} {
		same(t, "First", x.first)(gauge.First(x.p, x.threshold, x.from))
		same(t, "Last", x.last)(gauge.Last(x.p, x.threshold, x.to))
	}
}

// profiles calls see for all profiles of 2 and 3 values of a few, and for some others.
func profiles(seed int64, count int, see func(p []int)) {
	few := []int{0, 1, 2, 5, 254, 255}
	for _, a := range few {
		for _, b := range few {
			see([]int{a, b})
			for _, c := range few {
				see([]int{a, b, c})
			}
		}
	}
	d := newDice(seed)
	for range count {
		see(d.profile(d.length()))
	}
}

// P5.1
func TestPlaces(t *testing.T) {
	profiles(1, 200, func(p []int) {
		r := reals(p)
		for _, threshold := range []int{1, 2, 3, 100, 254, 255, max(1, p[0]), min(255, p[1]+1)} {
			for i := 0; i < len(p); i += 1 + len(p)/8 {
				same(t, "First", r.rise(threshold, i))(gauge.First(p, threshold, i))
				same(t, "Last", r.fall(threshold, i))(gauge.Last(p, threshold, i))
			}
		}
	})
}

// P5.1
func TestPlacesErrors(t *testing.T) {
	for name, f := range map[string]func(p []int, threshold, at int) (api.Frac, api.Errno){"First": gauge.First, "Last": gauge.Last} {
		for _, p := range badProfiles() {
			fails[api.Frac](t, name, api.ErrProfile)(f(p, 60, 0))
			fails[api.Frac](t, name, api.ErrProfile)(f(p, 0, 0))
			fails[api.Frac](t, name, api.ErrProfile)(f(p, 60, -1))
		}
		for _, p := range [][]int{seen(), {0, 0}} {
			for _, n := range badThresholds() {
				fails[api.Frac](t, name, api.ErrArg)(f(p, n, 1))
			}
			for _, n := range badIndices(len(p)) {
				fails[api.Frac](t, name, api.ErrArg)(f(p, 60, n))
			}
		}
		fails[api.Frac](t, name, api.ErrNone)(f([]int{0, 0}, 1, 1))
	}
}

// P5.1
func TestEnvelopes(t *testing.T) {
	p := []int{0, 9, 10, 11, 128, 244, 245, 246, 255}
	if l := must[[]int](t)(gauge.Upper(p, 10)); !slices.Equal(l, []int{10, 19, 20, 21, 138, 254, 255, 255, 255}) {
		t.Error(l)
	}
	if l := must[[]int](t)(gauge.Lower(p, 10)); !slices.Equal(l, []int{0, 0, 0, 1, 118, 234, 235, 236, 245}) {
		t.Error(l)
	}
	profiles(2, 200, func(p []int) {
		for _, noise := range []int{0, 1, 2, 17, 63, 64} {
			if l := must[[]int](t)(gauge.Upper(p, noise)); !slices.Equal(l, upper(p, noise)) {
				t.Fatal(p, noise, l)
			}
			if l := must[[]int](t)(gauge.Lower(p, noise)); !slices.Equal(l, lower(p, noise)) {
				t.Fatal(p, noise, l)
			}
		}
	})
}

// P5.1
func TestEnvelopesErrors(t *testing.T) {
	for name, f := range map[string]func(p []int, noise int) ([]int, api.Errno){"Upper": gauge.Upper, "Lower": gauge.Lower} {
		for _, p := range badProfiles() {
			for _, noise := range []int{0, 10, -1} {
				if l, e := f(p, noise); len(l) != 0 || e != api.ErrProfile {
					t.Error(name, p, noise, l, e)
				}
			}
		}
		for _, noise := range badNoises() {
			if l, e := f(seen(), noise); len(l) != 0 || e != api.ErrArg {
				t.Error(name, noise, l, e)
			}
		}
	}
}

// P5.8
func TestMirror(t *testing.T) {
	profiles(3, 400, func(p []int) {
		q := slices.Clone(p)
		slices.Reverse(q)
		end := len(p) - 1
		for _, threshold := range []int{1, 2, 77, 200, 255} {
			for i := range p {
				x, e := gauge.First(p, threshold, i)
				y, f := gauge.Last(q, threshold, end-i)
				if e != f || e == api.OK && plus(rat(x), rat(y)).Cmp(ratio(end, 1)) != 0 {
					t.Fatal(p, threshold, i, x, e, y, f)
				}
			}
		}
	})
}
