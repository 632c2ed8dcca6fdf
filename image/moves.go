package image

import "sightbench/api"

// Warp returns a warped image.
func Warp(m api.Image, t api.Warp, w, h, fill int) (api.Image, api.Errno) {
	if e := Check(m); e != api.OK {
		return api.Image{}, e
	}
	if !isWarp(t) || !isSide(w) || !isSide(h) || !isValue(fill) {
		return api.Image{}, api.ErrArg
	}
	return build(w, h, func(p place) int {
		if s := source(t, p); picture(m).has(s) {
			return picture(m).at(s)
		}
		return fill
	}), api.OK
}

// source returns the place that a warp takes a pixel from.
func source(t api.Warp, p place) place {
	return place{rounded(t.A*p.x+t.B*p.y+t.C, t.Den), rounded(t.D*p.x+t.E*p.y+t.F, t.Den)}
}

// rounded returns n / d plus one half, rounded down.
func rounded(n, d int) int { return quotient(2*n+d, 2*d) }

// isWarp reports whether a warp is valid.
func isWarp(t api.Warp) bool {
	for _, v := range [...]int{t.A, t.B, t.C, t.D, t.E, t.F} {
		if !within(v, api.MaxFactor) {
			return false
		}
	}
	return t.Den >= 1 && t.Den <= api.MaxFactor
}

// Turn returns an image turned by a quarter.
func Turn(m api.Image) (api.Image, api.Errno) {
	if e := Check(m); e != api.OK {
		return api.Image{}, e
	}
	return build(m.H, m.W, func(p place) int {
		return picture(m).at(place{p.y, m.H - 1 - p.x})
	}), api.OK
}

// Flip returns an image with left and right exchanged.
func Flip(m api.Image) (api.Image, api.Errno) {
	if e := Check(m); e != api.OK {
		return api.Image{}, e
	}
	return build(m.W, m.H, func(p place) int {
		return picture(m).at(place{m.W - 1 - p.x, p.y})
	}), api.OK
}
