package exact_test

import (
	"testing"

	"sightbench/api"
	"sightbench/exact"
)

// P1 (R1, R2, R5, R6): invalid fractions lead to ErrBad before any other error, with zero values.
func TestBadFractions(t *testing.T) {
	some := append(invalid(), whole(0), whole(1), whole(-most), frac(1, most))
	valid := func(a api.Frac) bool { return exact.Check(a) == api.OK }
	for _, a := range some {
		for _, b := range some {
			if valid(a) && valid(b) {
				continue
			}
			for i, how := range []op{exact.Add, exact.Sub, exact.Mul, exact.Div} {
				if y, e := how(a, b); y != (api.Frac{}) || e != api.ErrBad {
					t.Fatal(i, a, b, y, e)
				}
			}
			if n, e := exact.Compare(a, b); n != 0 || e != api.ErrBad {
				t.Fatal("Compare", a, b, n, e)
			}
		}
	}
	for _, a := range invalid() {
		if n, e := exact.Floor(a); n != 0 || e != api.ErrBad {
			t.Error("Floor", a, n, e)
		}
		if n, e := exact.Ceil(a); n != 0 || e != api.ErrBad {
			t.Error("Ceil", a, n, e)
		}
		if s, e := exact.Text(a); s != "" || e != api.ErrBad {
			t.Error("Text", a, s, e)
		}
		for _, scale := range []int{least, 0, 1, api.MaxScale, over} {
			if s, e := exact.Root(a, scale); s != (api.Span{}) || e != api.ErrBad {
				t.Error("Root", a, scale, s, e)
			}
		}
	}
}

// P1 (R1, R2, R5, R6): invalid enclosures lead to ErrBad before any other error, with zero values.
func TestBadSpans(t *testing.T) {
	good := []api.Span{span(whole(0), whole(0)), span(whole(1), whole(2)), span(whole(-most), whole(most))}
	hows := []spanOp{exact.AddSpans, exact.SubSpans, exact.MulSpans, exact.DivSpans, exact.Meet, exact.Join}
	for _, bad := range invalidSpans() {
		for _, other := range append(good, bad) {
			for i, how := range hows {
				if s, e := how(bad, other); s != (api.Span{}) || e != api.ErrBad {
					t.Fatal(i, bad, other, s, e)
				}
				if s, e := how(other, bad); s != (api.Span{}) || e != api.ErrBad {
					t.Fatal(i, other, bad, s, e)
				}
			}
		}
		if in, e := exact.In(bad, whole(0)); in || e != api.ErrBad {
			t.Error("In", bad, in, e)
		}
	}
	for _, bad := range invalid() {
		for _, s := range append(good, api.Span{}) {
			if in, e := exact.In(s, bad); in || e != api.ErrBad {
				t.Error("In", s, bad, in, e)
			}
		}
	}
}

// P1 (R6): what the functions return is valid.
func TestResultsAreValid(t *testing.T) {
	pairs(func(a, b api.Frac) {
		for i, how := range []op{exact.Add, exact.Sub, exact.Mul, exact.Div} {
			if y, e := how(a, b); e == api.OK && exact.Check(y) != api.OK {
				t.Fatal(i, a, b, y)
			}
		}
	})
	roots(func(a api.Frac, scale int) {
		if s, e := exact.Root(a, scale); e != api.OK || exact.CheckSpan(s) != api.OK {
			t.Fatal(a, scale, s, e)
		}
	})
}

// P1 (R7): no call panics, whatever the numbers are.
func TestExtremes(t *testing.T) {
	numbers := []int{least, least + 1, -most - 1, -most, -1 << 32, -1, 0, 1, 2, 1 << 32, most - 1, most, most + 1, over - 1, over}
	var list []api.Frac
	for _, num := range numbers {
		for _, den := range numbers {
			list = append(list, frac(num, den))
			exact.Make(num, den)
			exact.Root(frac(num, den), den)
			exact.Root(frac(num, 1), den)
		}
	}
	for _, a := range list {
		exact.Floor(a)
		exact.Ceil(a)
		exact.Text(a)
		for _, b := range list {
			exact.Compare(a, b)
			for _, how := range []op{exact.Add, exact.Sub, exact.Mul, exact.Div} {
				how(a, b)
			}
			exact.In(span(a, b), a)
			for _, how := range []spanOp{exact.AddSpans, exact.SubSpans, exact.MulSpans, exact.DivSpans, exact.Meet, exact.Join} {
				how(span(a, b), span(b, a))
				how(span(a, b), span(a, b))
			}
		}
	}
}
