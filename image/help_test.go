package image_test

import (
	"math/big"
	"math/rand"
	"slices"
	"testing"

	"sightbench/api"
	"sightbench/image"
)

const (
	most  = api.MaxPix
	limit = api.MaxFactor
	least = -1 << 63
	over  = 1<<63 - 1
)

// img returns an image of the width w.
func img(w int, pix ...int) api.Image {
	return api.Image{W: w, H: len(pix) / w, Pix: pix}
}

func row(pix ...int) api.Image { return img(len(pix), pix...) }

func kernel(w int, taps ...int) api.Kernel {
	return api.Kernel{W: w, H: len(taps) / w, Taps: taps}
}

func shape(w int, in ...bool) api.Shape {
	return api.Shape{W: w, H: len(in) / w, In: in}
}

// filled returns an image of one value.
func filled(w, h, value int) api.Image {
	return api.Image{W: w, H: h, Pix: slices.Repeat([]int{value}, w*h)}
}

func equal(a, b api.Image) bool {
	return a.W == b.W && a.H == b.H && slices.Equal(a.Pix, b.Pix)
}

// same fails the test unless a call returned that image and OK.
func same(t *testing.T, name string, got api.Image, e api.Errno, want api.Image) {
	t.Helper()
	if e != api.OK || !equal(got, want) {
		t.Fatalf("%s: %v, %v instead of %v", name, got, e, want)
	}
}

// must returns an image that a call returned with OK.
func must(t *testing.T) func(m api.Image, e api.Errno) api.Image {
	return func(m api.Image, e api.Errno) api.Image {
		t.Helper()
		if e != api.OK {
			t.Fatal(e)
		}
		return m
	}
}

func isZero(m api.Image) bool { return m.W == 0 && m.H == 0 && len(m.Pix) == 0 }

// random returns an image of that size with values from -size to size.
func random(r *rand.Rand, w, h, size int) api.Image {
	m := filled(w, h, 0)
	for i := range m.Pix {
		m.Pix[i] = r.Intn(2*size+1) - size
	}
	return m
}

// sizes are widths and heights of images: the least, the greatest, and some between.
func sizes() [][2]int {
	return [][2]int{{1, 1}, {2, 1}, {1, 2}, {3, 1}, {1, 5}, {2, 2}, {3, 2}, {4, 3}, {5, 5}, {7, 4}, {16, 1}, {1, 16}, {16, 16}, {13, 16}}
}

// pool returns images of many sizes: with small values and with large ones, with many values that are the same, and with the least and the greatest ones.
func pool() []api.Image {
	r := rand.New(rand.NewSource(1))
	var list []api.Image
	for _, s := range sizes() {
		for _, size := range []int{1, 3, 255, most} {
			list = append(list, random(r, s[0], s[1], size))
		}
		edges := random(r, s[0], s[1], 1)
		sparse := filled(s[0], s[1], 0)
		for i, v := range edges.Pix {
			edges.Pix[i] = v * most
			if r.Intn(6) == 0 {
				sparse.Pix[i] = 1 + r.Intn(2)
			}
		}
		list = append(list, edges, sparse, filled(s[0], s[1], 0), filled(s[0], s[1], 7), filled(s[0], s[1], most), filled(s[0], s[1], -most))
	}
	return list
}

// kernelSides are all the sides of kernels and shapes.
func kernelSides() [][2]int {
	var list [][2]int
	for _, w := range []int{1, 3, 5} {
		for _, h := range []int{1, 3, 5} {
			list = append(list, [2]int{w, h})
		}
	}
	return list
}

func randomKernel(r *rand.Rand, w, h, size int) api.Kernel {
	m := random(r, w, h, size)
	return api.Kernel{W: w, H: h, Taps: m.Pix}
}

// kernels returns kernels of all sides, with small and with the greatest factors.
func kernels() []api.Kernel {
	r := rand.New(rand.NewSource(2))
	var list []api.Kernel
	for _, s := range kernelSides() {
		all := filled(s[0], s[1], limit)
		list = append(list, randomKernel(r, s[0], s[1], 2), randomKernel(r, s[0], s[1], limit), api.Kernel{W: s[0], H: s[1], Taps: all.Pix})
	}
	return list
}

// shapes returns shapes of all sides: some offsets, all of them, and a single one.
func shapes() []api.Shape {
	r := rand.New(rand.NewSource(3))
	var list []api.Shape
	for _, s := range kernelSides() {
		n := s[0] * s[1]
		some, all, one := make([]bool, n), slices.Repeat([]bool{true}, n), make([]bool, n)
		for i := range some {
			some[i] = r.Intn(2) == 0
		}
		some[r.Intn(n)], one[r.Intn(n)] = true, true
		for _, in := range [][]bool{some, all, one} {
			list = append(list, api.Shape{W: s[0], H: s[1], In: in})
		}
	}
	return list
}

func invalidImages() []api.Image {
	list := []api.Image{
		{}, {W: 1, H: 1}, {W: 0, H: 1}, {W: 1, H: 0}, {W: -1, H: -1, Pix: []int{1}}, {W: -2, H: -3, Pix: make([]int, 6)}, {W: 1, H: 1, Pix: []int{1, 2}}, {W: 2, H: 2, Pix: []int{1, 2, 3}}, {W: 2, H: 1, Pix: []int{1, 2, 3, 4}},
		{W: 17, H: 1, Pix: make([]int, 17)}, {W: 1, H: 17, Pix: make([]int, 17)}, {W: 17, H: 17, Pix: make([]int, 289)}, {W: 32, H: 8, Pix: make([]int, 256)},
		{W: over, H: over, Pix: []int{1}}, {W: least, H: least}, {W: 1 << 32, H: 1 << 32}, {W: 1, H: over, Pix: []int{1}}, {W: least, H: 2}, {W: 0, H: 0, Pix: []int{}}, {W: 1, H: over},
		{W: 1, H: 2, Pix: make([]int, 1, 2)},
	}
	for _, v := range []int{most + 1, -most - 1, over, least, 1 << 32} {
		list = append(list, row(v), row(0, v), img(2, 1, 2, 3, v))
	}
	return list
}

func invalidKernels() []api.Kernel {
	list := []api.Kernel{
		{}, {W: 1, H: 1}, {W: 0, H: 1}, {W: 1, H: 0}, {W: 2, H: 1, Taps: make([]int, 2)}, {W: 1, H: 2, Taps: make([]int, 2)}, {W: 4, H: 4, Taps: make([]int, 16)}, {W: 7, H: 1, Taps: make([]int, 7)}, {W: 1, H: 7, Taps: make([]int, 7)},
		{W: 6, H: 3, Taps: make([]int, 18)}, {W: -1, H: -1, Taps: make([]int, 1)}, {W: -3, H: -5, Taps: make([]int, 15)}, {W: 3, H: 3, Taps: make([]int, 8)}, {W: 3, H: 3, Taps: make([]int, 10)}, {W: over, H: over, Taps: make([]int, 1)}, {W: least, H: 3},
	}
	for _, v := range []int{limit + 1, -limit - 1, over, least} {
		list = append(list, kernel(1, v), kernel(3, 0, 0, v), kernel(3, v, 0, 0, 0, 0, 0, 0, 0, 0))
	}
	return list
}

func invalidShapes() []api.Shape {
	var list []api.Shape
	for _, k := range invalidKernels()[:16] {
		list = append(list, api.Shape{W: k.W, H: k.H, In: slices.Repeat([]bool{true}, len(k.Taps))})
	}
	for _, s := range kernelSides() {
		list = append(list, api.Shape{W: s[0], H: s[1], In: make([]bool, s[0]*s[1])})
	}
	return list
}

func point(mul, add, div, lo, hi int) api.Point {
	return api.Point{Mul: mul, Add: add, Div: div, Lo: lo, Hi: hi}
}

func invalidPoints() []api.Point {
	return []api.Point{
		{}, point(limit+1, 0, 1, 0, 0), point(-limit-1, 0, 1, 0, 0), point(over, 0, 1, 0, 0), point(least, 0, 1, 0, 0),
		point(1, most+1, 1, 0, 0), point(1, -most-1, 1, 0, 0), point(1, over, 1, 0, 0), point(1, least, 1, 0, 0),
		point(1, 0, 0, 0, 0), point(1, 0, -1, 0, 0), point(1, 0, limit+1, 0, 0), point(1, 0, over, 0, 0), point(1, 0, least, 0, 0),
		point(1, 0, 1, 1, 0), point(1, 0, 1, -most-1, 0), point(1, 0, 1, 0, most+1), point(1, 0, 1, least, over), point(1, 0, 1, most+1, most+1), point(1, 0, 1, -most-1, -most-1), point(1, 0, 1, over, least), point(1, 0, 1, most, -most),
	}
}

func invalidWarps() []api.Warp {
	list := []api.Warp{{}, {A: 1, E: 1}, {A: 1, E: 1, Den: -1}, {A: 1, E: 1, Den: limit + 1}, {A: 1, E: 1, Den: over}, {A: 1, E: 1, Den: least}}
	for _, v := range []int{limit + 1, -limit - 1, over, least} {
		list = append(list, api.Warp{A: v, Den: 1}, api.Warp{B: v, Den: 1}, api.Warp{C: v, Den: 1}, api.Warp{D: v, Den: 1}, api.Warp{E: v, Den: 1}, api.Warp{F: v, Den: 1})
	}
	return list
}

func number(n int) *big.Int { return big.NewInt(int64(n)) }

// brought brings a long number into a range.
func brought(n *big.Int, lo, hi int) int {
	if n.Cmp(number(lo)) < 0 {
		return lo
	}
	if n.Cmp(number(hi)) > 0 {
		return hi
	}
	return int(n.Int64())
}

// floor returns n / d, rounded down, for d above 0.
func floor(n, d *big.Int) *big.Int {
	q, _ := new(big.Int).DivMod(n, d, new(big.Int)) // Euclid's division rounds down for d above 0.
	return q
}

// perPixel returns the image that has in each pixel what value computes for it.
func perPixel(w, h int, value func(x, y int) int) api.Image {
	m := api.Image{W: w, H: h}
	for y := range h {
		for x := range w {
			m.Pix = append(m.Pix, value(x, y))
		}
	}
	return m
}

// at returns the value of a pixel, and whether it is one.
func at(m api.Image, x, y int) (int, bool) {
	if x < 0 || y < 0 || x >= m.W || y >= m.H {
		return 0, false
	}
	return m.Pix[y*m.W+x], true
}

// P2.1
func TestCheck(t *testing.T) {
	for _, m := range invalidImages() {
		if e := image.Check(m); e != api.ErrImage {
			t.Errorf("Check(%v): %v", m, e)
		}
	}
	for _, m := range pool() {
		if e := image.Check(m); e != api.OK {
			t.Errorf("Check(%v): %v", m, e)
		}
	}
	for w := 1; w <= 16; w++ {
		for h := 1; h <= 16; h++ {
			if e := image.Check(filled(w, h, w-h)); e != api.OK {
				t.Errorf("Check(%d * %d): %v", w, h, e)
			}
		}
	}
}
