package image

import (
	"iter"

	"sightbench/api"
)

// Convolve returns the convolution of an image with a kernel.
func Convolve(m api.Image, k api.Kernel, border uint8) (api.Image, api.Errno) {
	if e := Check(m); e != api.OK {
		return api.Image{}, e
	}
	if !isKernel(k) {
		return api.Image{}, api.ErrKernel
	}
	value, ok := borders()[border]
	if !ok {
		return api.Image{}, api.ErrArg
	}
	// A sum has at most 25 products of at most 2^47.
	return build(m.W, m.H, func(p place) int {
		sum := 0
		for i, o := range offsets(k.W, k.H) {
			sum += k.Taps[i] * value(picture(m), p.minus(o))
		}
		return sum
	}), api.OK
}

// borders returns by their numbers the ways in which an image has values also beyond its border.
func borders() map[uint8]func(m picture, p place) int {
	return map[uint8]func(m picture, p place) int{
		api.BorderZero: picture.orZero,
		api.BorderNear: picture.nearest,
		api.BorderWrap: picture.wrapped,
	}
}

func (m picture) orZero(p place) int {
	if !m.has(p) {
		return 0
	}
	return m.at(p)
}

func (m picture) nearest(p place) int {
	return m.at(place{bring(p.x, 0, m.W-1), bring(p.y, 0, m.H-1)})
}

func (m picture) wrapped(p place) int {
	return m.at(place{p.x - m.W*quotient(p.x, m.W), p.y - m.H*quotient(p.y, m.H)})
}

// Compose returns the kernel of two convolutions.
func Compose(a, b api.Kernel) (api.Kernel, api.Errno) {
	if !isKernel(a) || !isKernel(b) {
		return api.Kernel{}, api.ErrKernel
	}
	w, h := a.W+b.W-1, a.H+b.H-1
	if w > api.MaxKernel || h > api.MaxKernel {
		return api.Kernel{}, api.ErrSize
	}
	k := api.Kernel{W: w, H: h, Taps: make([]int, w*h)}
	for i, v := range a.Taps {
		for j, u := range b.Taps {
			// All sides are odd, so that offsets add up exactly if their columns and rows do.
			k.Taps[(i/a.W+j/b.W)*w+i%a.W+j%b.W] += v * u
		}
	}
	for i, v := range k.Taps {
		k.Taps[i] = bring(v, -api.MaxFactor, api.MaxFactor)
	}
	return k, api.OK
}

// Dilate returns an image dilated by a shape.
func Dilate(m api.Image, s api.Shape) (api.Image, api.Errno) {
	return extremes(m, s, place.minus, -api.MaxPix, func(a, b int) int { return max(a, b) })
}

// Erode returns an image eroded by a shape.
func Erode(m api.Image, s api.Shape) (api.Image, api.Errno) {
	return extremes(m, s, place.plus, api.MaxPix, func(a, b int) int { return min(a, b) })
}

// extremes returns the image that has in each pixel what choose leaves of a first number and the values at all pixels that are an offset of a shape away.
func extremes(m api.Image, s api.Shape, away func(p, o place) place, first int, choose func(a, b int) int) (api.Image, api.Errno) {
	if e := Check(m); e != api.OK {
		return api.Image{}, e
	}
	if !isShape(s) {
		return api.Image{}, api.ErrKernel
	}
	return build(m.W, m.H, func(p place) int {
		chosen := first
		for i, o := range offsets(s.W, s.H) {
			if q := away(p, o); s.In[i] && picture(m).has(q) {
				chosen = choose(chosen, picture(m).at(q))
			}
		}
		return chosen
	}), api.OK
}

// offsets yields the indices of a kernel or a shape with their offsets.
func offsets(w, h int) iter.Seq2[int, place] {
	return func(yield func(int, place) bool) {
		for i := range w * h {
			if !yield(i, place{i%w - w/2, i/w - h/2}) {
				return
			}
		}
	}
}

// isKernel reports whether a kernel is valid.
func isKernel(k api.Kernel) bool {
	if !isKernelSide(k.W) || !isKernelSide(k.H) || len(k.Taps) != k.W*k.H {
		return false
	}
	for _, v := range k.Taps {
		if !within(v, api.MaxFactor) {
			return false
		}
	}
	return true
}

// isShape reports whether a shape is valid.
func isShape(s api.Shape) bool {
	if !isKernelSide(s.W) || !isKernelSide(s.H) || len(s.In) != s.W*s.H {
		return false
	}
	for _, in := range s.In {
		if in {
			return true
		}
	}
	return false
}

// isKernelSide reports whether n may be a side of a kernel or a shape.
func isKernelSide(n int) bool { return n >= 1 && n <= api.MaxKernel && n%2 == 1 }
