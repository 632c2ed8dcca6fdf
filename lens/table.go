package lens

import (
	"sort"

	"sightbench/api"
	"sightbench/exact"
)

// CheckKnots returns ErrKnots unless a table is valid.
func CheckKnots(l []api.Knot) api.Errno {
	if !within(2, api.MaxKnots, len(l)) {
		return api.ErrKnots
	}
	for i, k := range l {
		if !within(-api.MaxAt, api.MaxAt, k.At, k.To) {
			return api.ErrKnots
		}
		if i > 0 && (k.At <= l[i-1].At || k.To <= l[i-1].To) {
			return api.ErrKnots
		}
	}
	return api.OK
}

// Correct returns the corrected place of x.
func Correct(l []api.Knot, x api.Frac) (api.Frac, api.Errno) {
	if e := CheckKnots(l); e != api.OK {
		return api.Frac{}, e
	}
	if !covers(l, x) {
		return api.Frac{}, api.ErrArg
	}
	return corrected(l, x), api.OK
}

// Distort returns the place whose corrected place is y. A table with its sides exchanged is valid exactly if the table is.
func Distort(l []api.Knot, y api.Frac) (api.Frac, api.Errno) {
	return Correct(exchanged(l), y)
}

// CorrectSpan returns the span of the corrected places of both ends.
func CorrectSpan(l []api.Knot, s api.Span) (api.Span, api.Errno) {
	lo, e := Correct(l, s.Lo)
	if e != api.OK {
		return api.Span{}, e
	}
	hi, e := Correct(l, s.Hi)
	if e != api.OK {
		return api.Span{}, e
	}
	if exact.CheckSpan(s) != api.OK {
		return api.Span{}, api.ErrArg
	}
	return api.Span{Lo: lo, Hi: hi}, api.OK
}

// covers reports whether x is a valid fraction that a valid table says something of.
func covers(l []api.Knot, x api.Frac) bool {
	if exact.Check(x) != api.OK || x.Den > api.MaxDen {
		return false
	}
	return within(l[0].At*x.Den, l[len(l)-1].At*x.Den, x.Num)
}

// corrected returns the corrected place of an x that a valid table covers.
func corrected(l []api.Knot, x api.Frac) api.Frac {
	i := sort.Search(len(l)-2, func(i int) bool { return x.Num <= l[i+1].At*x.Den })
	knot, next := l[i], l[i+1]
	wide, high := next.At-knot.At, next.To-knot.To
	// Make does not fail: the numbers are below 2^48, as a place is at most 2^12 and its Den at most 2^20.
	y, _ := exact.Make(knot.To*wide*x.Den+(x.Num-knot.At*x.Den)*high, wide*x.Den)
	return y
}

// exchanged returns a table with its sides exchanged.
func exchanged(l []api.Knot) []api.Knot {
	var list []api.Knot
	for _, k := range l {
		list = append(list, api.Knot{At: k.To, To: k.At})
	}
	return list
}
