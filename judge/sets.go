package judge

import (
	"slices"

	"sightbench/api"
	"sightbench/image"
)

// Spread returns the least and the greatest values that a change allows.
func Spread(m api.Image, c api.Change) (api.Image, api.Image, api.Errno) {
	if !isCamera(m) {
		return api.Image{}, api.Image{}, api.ErrImage
	}
	if !isChange(c) {
		return api.Image{}, api.Image{}, api.ErrArg
	}
	// The nearest pixel to one beyond the border is one of those that a shift reaches within it, so that shapes, which leave out what is beyond, find the same values. Nothing of this fails.
	side := 2*c.Shift + 1
	square := api.Shape{W: side, H: side, In: slices.Repeat([]bool{true}, side*side)}
	lo, _ := image.Erode(m, square)
	hi, _ := image.Dilate(m, square)
	off := c.Offset + c.Noise
	lo, _ = image.Point(lo, light(c.GainLo, -off))
	hi, _ = image.Point(hi, light(c.GainHi, off))
	return lo, hi, api.OK
}

// Certify returns the certificate for a set of images.
func Certify(n api.Network, lo, hi api.Image, splits int) (uint8, api.Errno) {
	if e := checkSeen(n, lo, hi); e != api.OK {
		return 0, e
	}
	if !isBelow(lo, hi) || !within(splits, 0, api.MaxSplits) {
		return 0, api.ErrArg
	}
	least, most := features(n, lo), features(n, hi)
	list := make([]bounds, len(least))
	for i := range list {
		list[i] = bounds{least[i], most[i]}
	}
	return certificate(n, list, splits), api.OK
}

// isChange reports whether a change is valid.
func isChange(c api.Change) bool {
	return within(c.Shift, 0, api.MaxShift) && 0 <= c.GainLo && c.GainLo <= c.GainHi && c.GainHi <= api.MaxPercent && within(c.Offset, 0, api.MaxValue) && within(c.Noise, 0, api.MaxValue)
}

// light returns the point operation of a gain, and a number that is added.
func light(gain, off int) api.Point {
	const percent = 100
	return api.Point{Mul: gain, Add: percent * off, Div: percent, Lo: 0, Hi: api.MaxValue}
}

// isBelow reports whether an image is nowhere greater than another one of its size.
func isBelow(lo, hi api.Image) bool {
	for i, v := range lo.Pix {
		if v > hi.Pix[i] {
			return false
		}
	}
	return true
}

// certificate returns the certificate for bounds of the features.
func certificate(n api.Network, list []bounds, splits int) uint8 {
	at := widest(list)
	b := list[at]
	whole := verdict(n, carried(n.Layers, list))
	if whole != api.Undecided || splits == 0 || b[0] == b[1] {
		return whole
	}
	half := func(part bounds) uint8 {
		list := slices.Clone(list)
		list[at] = part
		return certificate(n, list, splits-1)
	}
	middle := (b[0] + b[1]) / 2
	first := half(bounds{b[0], middle})
	if first != half(bounds{middle + 1, b[1]}) {
		return api.Undecided
	}
	return first
}

// widest returns the index of the bounds with the greatest difference, of several the first one.
func widest(list []bounds) int {
	at := 0
	for i, b := range list {
		if b[1]-b[0] > list[at][1]-list[at][0] {
			at = i
		}
	}
	return at
}
