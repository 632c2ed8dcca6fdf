package image

import "sightbench/api"

// Rows returns the sums of the rows.
func Rows(m api.Image) ([]int, api.Errno) {
	return sums(m, m.H, func(p place) int { return p.y })
}

// Cols returns the sums of the columns.
func Cols(m api.Image) ([]int, api.Errno) {
	return sums(m, m.W, func(p place) int { return p.x })
}

// sums returns so many sums of values; index says to which one a pixel belongs.
func sums(m api.Image, count int, index func(p place) int) ([]int, api.Errno) {
	if e := Check(m); e != api.OK {
		return nil, e
	}
	list := make([]int, count)
	for p, v := range picture(m).pixels() {
		list[index(p)] += v
	}
	return list, api.OK
}

// Integral returns the sums of all pixels above and to the left.
func Integral(m api.Image) ([]int, api.Errno) {
	if e := Check(m); e != api.OK {
		return nil, e
	}
	w := m.W + 1
	list := make([]int, w*(m.H+1))
	for p, v := range picture(m).pixels() {
		i := (p.y+1)*w + p.x + 1
		list[i] = v + list[i-1] + list[i-w] - list[i-w-1]
	}
	return list, api.OK
}

// Box returns the sum of a rectangle.
func Box(m api.Image, x0, y0, x1, y1 int) (int, api.Errno) {
	if e := Check(m); e != api.OK {
		return 0, e
	}
	if !ordered(0, x0, x1, m.W) || !ordered(0, y0, y1, m.H) {
		return 0, api.ErrArg
	}
	sum := 0
	for p, v := range picture(m).pixels() {
		if p.x >= x0 && p.x < x1 && p.y >= y0 && p.y < y1 {
			sum += v
		}
	}
	return sum, api.OK
}

// ordered reports whether none of some numbers is below the one before it.
func ordered(a, b, c, d int) bool { return a <= b && b <= c && c <= d }
