package gauge

import (
	"sightbench/api"
	"sightbench/exact"
	"sightbench/image"
	"sightbench/lens"
)

// Views returns the views of an image: the edges of its rows, in sixteenths of a pixel.
func Views(m api.Image, threshold, noise int) ([]api.View, api.Errno) {
	if e := image.Check(m); e != api.OK {
		return nil, e
	}
	var list []api.View
	for y := range m.H {
		edge, e := Rise(m.Pix[y*m.W:(y+1)*m.W], threshold, 0, noise)
		switch e {
		case api.OK:
			list = append(list, view(y, edge))
		case api.ErrNone:
		default:
			// Also a row that is no profile is an argument that is wrong.
			return nil, api.ErrArg
		}
	}
	return list, api.OK
}

// view returns the view of the edge of a row. Its sixteenths are few, so that nothing here fails.
func view(y int, edge api.Span) api.View {
	place, _ := exact.MulSpans(edge, only(16))
	lo, _ := exact.Floor(place.Lo)
	hi, _ := exact.Ceil(place.Hi)
	return api.View{X: y, Z: 1, Lo: lo, Hi: hi}
}

// Line returns the camera of the views of an image: its slope as F, its place in the row 0 as C.
func Line(m api.Image, threshold, noise int) (api.Camera, api.Errno) {
	list, e := Views(m, threshold, noise)
	if e != api.OK {
		return api.Camera{}, e
	}
	return lens.Calibrate(list)
}

// Corner returns where the lines x = C + F * y of a and y = C + F * x of b meet.
func Corner(a, b api.Camera) (x, y api.Span, e api.Errno) {
	for _, s := range [4]api.Span{a.F, a.C, b.F, b.C} {
		if exact.CheckSpan(s) != api.OK {
			return api.Span{}, api.Span{}, api.ErrBad
		}
	}
	d, e := divisor(a, b)
	if e != api.OK {
		return api.Span{}, api.Span{}, e
	}
	x, e = meeting(a, b, d)
	if e != api.OK {
		return api.Span{}, api.Span{}, e
	}
	y, e = meeting(b, a, d)
	if e != api.OK {
		return api.Span{}, api.Span{}, e
	}
	return x, y, api.OK
}

// divisor returns the span of 1 - f * g for the slopes f and g of two lines: ErrNone if it contains 0, as lines with such slopes need not meet.
func divisor(a, b api.Camera) (api.Span, api.Errno) {
	both, e := exact.MulSpans(a.F, b.F)
	if e != api.OK {
		return api.Span{}, e
	}
	d, e := exact.SubSpans(only(1), both)
	if e != api.OK {
		return api.Span{}, e
	}
	if zero, _ := exact.In(d, only(0).Lo); zero {
		return api.Span{}, api.ErrNone
	}
	return d, api.OK
}

// meeting returns the span of the coordinate that a gives of where it meets b: with the other line's y = h + g * x in x = c + f * y, x is (c + f * h) / (1 - f * g).
func meeting(a, b api.Camera, d api.Span) (api.Span, api.Errno) {
	part, e := exact.MulSpans(a.F, b.C)
	if e != api.OK {
		return api.Span{}, e
	}
	sum, e := exact.AddSpans(a.C, part)
	if e != api.OK {
		return api.Span{}, e
	}
	return exact.DivSpans(sum, d)
}
