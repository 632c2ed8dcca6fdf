package lens

import (
	"sightbench/api"
	"sightbench/exact"
)

// Tangent returns the tangents of what a camera sees at some places.
func Tangent(c api.Camera, u api.Span) (api.Span, api.Errno) {
	if exact.CheckSpan(c.F) != api.OK || exact.CheckSpan(c.C) != api.OK || c.F.Lo.Num <= 0 {
		return api.Span{}, api.ErrBad
	}
	off, e := exact.SubSpans(u, c.C)
	if e != api.OK {
		return api.Span{}, e
	}
	return exact.DivSpans(off, c.F)
}

// Depth returns the depths of what two cameras see, which are base apart.
func Depth(a, b api.Camera, base int, u, v api.Span) (api.Span, api.Errno) {
	if !within(1, api.MaxPlace, base) {
		return api.Span{}, api.ErrArg
	}
	left, e := Tangent(a, u)
	if e != api.OK {
		return api.Span{}, e
	}
	right, e := Tangent(b, v)
	if e != api.OK {
		return api.Span{}, e
	}
	difference, e := exact.SubSpans(left, right)
	if e != api.OK {
		return api.Span{}, e
	}
	if difference.Lo.Num <= 0 {
		return api.Span{}, api.ErrNone
	}
	length := api.Frac{Num: base, Den: 1}
	return exact.DivSpans(api.Span{Lo: length, Hi: length}, difference)
}
