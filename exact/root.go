package exact

import "sightbench/api"

// rootTop is the highest bit that a root may have: MaxPart times the square of MaxScale is less than 2^92.
const rootTop = 1 << 45

// Root returns an enclosure of the square root of a number.
func Root(a api.Frac, scale int) (api.Span, api.Errno) {
	if e := Check(a); e != api.OK {
		return api.Span{}, e
	}
	if a.Num < 0 || scale < 1 || scale > api.MaxScale {
		return api.Span{}, api.ErrArg
	}
	// A whole square is at most a number exactly if it is at most the whole part of it.
	most, rest := product(a.Num, scale*scale).divide(size(a.Den))
	lower := greatest(func(n int) bool { return product(n, n).minus(most).sign() <= 0 })
	upper := lower
	if rest != 0 || product(lower, lower) != most {
		upper++
	}
	// Neither fails, as the numbers are at most 2^46 and the scale is above 0.
	lo, _ := Make(lower, scale)
	hi, _ := Make(upper, scale)
	return api.Span{Lo: lo, Hi: hi}, api.OK
}

// greatest returns the greatest number, bit by bit, that is small enough; all numbers below one that is are, too.
func greatest(small func(n int) bool) int {
	n := 0
	for bit := rootTop; bit > 0; bit >>= 1 {
		if small(n | bit) {
			n |= bit
		}
	}
	return n
}
