package image

import "sightbench/api"

// Point returns the image of what a point operation turns the values into.
func Point(m api.Image, p api.Point) (api.Image, api.Errno) {
	if e := Check(m); e != api.OK {
		return api.Image{}, e
	}
	if !isPoint(p) {
		return api.Image{}, api.ErrArg
	}
	return build(m.W, m.H, func(at place) int {
		return bring(quotient(p.Mul*picture(m).at(at)+p.Add, p.Div), p.Lo, p.Hi)
	}), api.OK
}

// isPoint reports whether a point operation is valid.
func isPoint(p api.Point) bool {
	if !within(p.Mul, api.MaxFactor) || !isValue(p.Add) || p.Div < 1 || p.Div > api.MaxFactor {
		return false
	}
	return isValue(p.Lo) && isValue(p.Hi) && p.Lo <= p.Hi
}

// Zip returns the image of the results of an operation for the values of two images.
func Zip(a, b api.Image, how uint8) (api.Image, api.Errno) {
	if e := Check(a); e != api.OK {
		return api.Image{}, e
	}
	if e := Check(b); e != api.OK {
		return api.Image{}, e
	}
	if a.W != b.W || a.H != b.H {
		return api.Image{}, api.ErrSize
	}
	if how < api.ZipSum || how > api.ZipDistance {
		return api.Image{}, api.ErrArg
	}
	operation := operations()[how]
	return build(a.W, a.H, func(p place) int {
		return operation(picture(a).at(p), picture(b).at(p))
	}), api.OK
}

// operations returns the operations of two values by their numbers. None overflows, as a product is at most 2^62.
func operations() [api.ZipDistance + 1]func(a, b int) int {
	return [...]func(a, b int) int{
		api.ZipSum:        func(a, b int) int { return a + b },
		api.ZipDifference: func(a, b int) int { return a - b },
		api.ZipLeast:      func(a, b int) int { return min(a, b) },
		api.ZipMost:       func(a, b int) int { return max(a, b) },
		api.ZipProduct:    func(a, b int) int { return a * b },
		api.ZipDistance:   func(a, b int) int { return max(a-b, b-a) },
	}
}
