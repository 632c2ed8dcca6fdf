package gauge_test

import (
	"math/big"
	"testing"

	"sightbench/api"
	"sightbench/gauge"
)

// result is what a call returned.
type result struct {
	s api.Span
	e api.Errno
}

func of(s api.Span, e api.Errno) result { return result{s, e} }

func from(lo, hi api.Frac) result { return result{s: span(lo, hi)} }

func none() result { return result{e: api.ErrNone} }

// P5.2
func TestSpansByHand(t *testing.T) {
	for i, x := range []struct{ got, want result }{
		{of(gauge.Rise(seen(), 60, 0, 10)), from(frac(9, 5), frac(11, 5))},
		{of(gauge.Rise(seen(), 60, 0, 0)), from(whole(2), whole(2))},
		{of(gauge.Rise(seen(), 60, 2, 10)), from(whole(2), frac(11, 5))},
		{of(gauge.Rise(seen(), 60, 4, 10)), from(whole(4), whole(4))},
		{of(gauge.Rise(seen(), 60, 5, 10)), none()},
		{of(gauge.Rise(seen(), 60, 5, 30)), none()},
		{of(gauge.Fall(seen(), 60, 5, 10)), from(frac(9, 2), frac(19, 4))},
		{of(gauge.Fall(seen(), 60, 2, 10)), none()},
		{of(gauge.Fall(seen(), 60, 2, 0)), from(whole(2), whole(2))},
		{of(gauge.Fall(seen(), 60, 3, 10)), from(whole(3), whole(3))},
		{of(gauge.Width(seen(), 60, 10)), from(frac(23, 10), frac(59, 20))},
		{of(gauge.Width(seen(), 60, 0)), from(frac(21, 8), frac(21, 8))},
		{of(gauge.Width(seen(), 60, 50)), from(whole(1), whole(5))},
		{of(gauge.Width(seen(), 60, 51)), none()},
		{of(gauge.Width([]int{250, 0}, 250, 64)), none()},
		{of(gauge.Width([]int{255, 0}, 255, 0)), from(whole(0), whole(0))},
		// The upper profile is 5, 205, 255.
		{of(gauge.Rise([]int{0, 200, 255}, 250, 0, 5)), from(frac(19, 10), whole(2))},
		// The lower profile is 0, 0, 40.
		{of(gauge.Rise([]int{0, 5, 50}, 10, 0, 10)), from(whole(0), frac(5, 4))},
	} {
		if x.got != x.want {
			t.Error(i, x)
		}
	}
}

// spanned fails the test unless a call returned the span from lo to hi, or ErrNone if the lower profile has nothing.
func spanned(t *testing.T, name string, lo, hi, low *big.Rat) func(s api.Span, e api.Errno) {
	return func(s api.Span, e api.Errno) {
		t.Helper()
		want := none()
		if low != nil {
			want.s, want.e = fit(lo, hi)
		}
		if of(s, e) != want || low != nil && !inOrder(lo, hi) {
			t.Fatalf("%s: %v, %v instead of %v", name, s, e, want)
		}
	}
}

// P5.2, P5.6: both ends are reached by the upper and the lower profile.
func TestSpans(t *testing.T) {
	profiles(4, 100, func(p []int) {
		for _, noise := range []int{0, 1, 3, 64} {
			up, low := reals(upper(p, noise)), reals(lower(p, noise))
			for _, threshold := range []int{1, 3, 100, 253, 255} {
				for i := 0; i < len(p); i += 1 + len(p)/8 {
					a, b := up.rise(threshold, i), low.rise(threshold, i)
					spanned(t, "Rise", a, b, b)(gauge.Rise(p, threshold, i, noise))
					a, b = up.fall(threshold, i), low.fall(threshold, i)
					spanned(t, "Fall", b, a, b)(gauge.Fall(p, threshold, i, noise))
				}
				a, b := up.width(threshold), low.width(threshold)
				spanned(t, "Width", b, a, b)(gauge.Width(p, threshold, noise))
			}
		}
	})
}

// P5.2
func TestSpansErrors(t *testing.T) {
	width := func(p []int, threshold, at, noise int) (api.Span, api.Errno) { return gauge.Width(p, threshold, noise) }
	for name, f := range map[string]func(p []int, threshold, at, noise int) (api.Span, api.Errno){"Rise": gauge.Rise, "Fall": gauge.Fall, "Width": width} {
		for _, p := range badProfiles() {
			fails[api.Span](t, name, api.ErrProfile)(f(p, 60, 0, 10))
			fails[api.Span](t, name, api.ErrProfile)(f(p, 0, -1, -1))
		}
		// The last of these profiles is nowhere bright, with any noise.
		for _, p := range [][]int{seen(), {200, 200}, {0, 0}} {
			for _, n := range badThresholds() {
				fails[api.Span](t, name, api.ErrArg)(f(p, n, 1, 10))
			}
			for _, n := range badNoises() {
				fails[api.Span](t, name, api.ErrArg)(f(p, 100, 1, n))
			}
			for _, n := range badIndices(len(p)) {
				if name != "Width" {
					fails[api.Span](t, name, api.ErrArg)(f(p, 100, n, 10))
				}
			}
		}
		fails[api.Span](t, name, api.ErrNone)(f([]int{0, 0}, 100, 1, 10))
		fails[api.Span](t, name, api.ErrNone)(f([]int{99, 99}, 100, 1, 1))
		fails[api.Span](t, name, api.ErrNone)(f([]int{100, 100}, 100, 1, 1))
		must[api.Span](t)(f([]int{101, 101}, 100, 1, 1))
	}
}

// read is what a span is of: a number that is read from a profile, or nil.
type read func(p real) *big.Rat

// inside fails the test unless a profile has a number, and a span has it.
func inside(t *testing.T, how read) func(r real, s api.Span, e api.Errno) {
	return func(r real, s api.Span, e api.Errno) {
		t.Helper()
		if e != api.OK {
			return
		}
		if x := how(r); x == nil || !has(s, x) {
			t.Fatal(r, s, x)
		}
	}
}

// P5.6
func TestEnclosed(t *testing.T) {
	d := newDice(5)
	for range 1000 {
		p := d.profile(d.length())
		noise, threshold, i := d.noise(), d.from(1, api.MaxValue), d.Intn(len(p))
		rise, e1 := gauge.Rise(p, threshold, i, noise)
		fall, e2 := gauge.Fall(p, threshold, i, noise)
		width, e3 := gauge.Width(p, threshold, noise)
		for range 6 {
			r := d.allowed(p, noise)
			inside(t, func(r real) *big.Rat { return r.rise(threshold, i) })(r, rise, e1)
			inside(t, func(r real) *big.Rat { return r.fall(threshold, i) })(r, fall, e2)
			inside(t, func(r real) *big.Rat { return r.width(threshold) })(r, width, e3)
		}
	}
}

// P5.6: with less noise spans do not become wider.
func TestLessNoise(t *testing.T) {
	d := newDice(6)
	for range 1000 {
		p := d.profile(d.length())
		noise, threshold, i := d.noise(), d.from(1, api.MaxValue), d.Intn(len(p))
		less := d.from(0, noise)
		for _, f := range []func(noise int) (api.Span, api.Errno){
			func(noise int) (api.Span, api.Errno) { return gauge.Rise(p, threshold, i, noise) },
			func(noise int) (api.Span, api.Errno) { return gauge.Fall(p, threshold, i, noise) },
			func(noise int) (api.Span, api.Errno) { return gauge.Width(p, threshold, noise) },
		} {
			if s, e := f(noise); e == api.OK && !covers(s, must[api.Span](t)(f(less))) {
				t.Fatal(p, threshold, i, noise, less)
			}
		}
	}
}
