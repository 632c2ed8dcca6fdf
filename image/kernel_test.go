package image_test

import (
	"math/big"
	"math/rand"
	"slices"
	"testing"

	"sightbench/api"
	"sightbench/image"
)

// P2.2
func TestConvolveExamples(t *testing.T) {
	for i, x := range []struct {
		m      api.Image
		k      api.Kernel
		border uint8
		want   api.Image
	}{
		{row(1, 2, 3), kernel(3, 1, 0, -1), api.BorderZero, row(2, 2, -2)},
		{row(1, 2, 3), kernel(3, 1, 0, -1), api.BorderNear, row(1, 2, 1)},
		{row(1, 2, 3), kernel(3, 1, 0, -1), api.BorderWrap, row(-1, 2, -1)},
		{img(1, 1, 2, 3), kernel(1, 1, 0, -1), api.BorderZero, img(1, 2, 2, -2)},
		{img(1, 1, 2, 3), kernel(3, 1, 0, -1), api.BorderZero, img(1, 0, 0, 0)},
		{row(4), kernel(5, 1, 2, 3, 4, 5), api.BorderZero, row(12)},
		{row(4), kernel(5, 1, 2, 3, 4, 5), api.BorderNear, row(60)},
		{row(4), kernel(5, 1, 2, 3, 4, 5), api.BorderWrap, row(60)},
		{row(1, 10), kernel(5, 1, 0, 0, 0, 0), api.BorderWrap, row(1, 10)},
		{row(1, 10), kernel(5, 1, 0, 0, 0, 0), api.BorderNear, row(10, 10)},
		{row(1, 10, 100), kernel(5, 0, 0, 0, 0, 1), api.BorderWrap, row(10, 100, 1)},
		{row(most, -most), kernel(1, limit), api.BorderZero, row(most, -most)},
		{row(most, most), kernel(3, limit, 1, -limit), api.BorderNear, row(most, most)},
		{filled(1, 1, most), kernel(5, slices.Repeat([]int{limit}, 25)...), api.BorderWrap, row(most)},
		{filled(1, 1, -most), kernel(5, slices.Repeat([]int{limit}, 25)...), api.BorderNear, row(-most)},
	} {
		if m, e := image.Convolve(x.m, x.k, x.border); e != api.OK || !equal(m, x.want) {
			t.Errorf("%d: %v, %v", i, m, e)
		}
	}
}

// P2.2
func TestKernelErrors(t *testing.T) {
	m, one := row(1, 2), kernel(1, 1)
	for _, k := range invalidKernels() {
		for _, border := range []uint8{0, 1, 2, 3, 4} {
			if m, e := image.Convolve(m, k, border); !isZero(m) || e != api.ErrKernel {
				t.Errorf("Convolve %v: %v, %v", k, m, e)
			}
		}
		for _, other := range []api.Kernel{one, kernel(5, 1, 2, 3, 4, 5), k} {
			for _, pair := range [][2]api.Kernel{{k, other}, {other, k}} {
				if c, e := image.Compose(pair[0], pair[1]); c.W != 0 || c.H != 0 || len(c.Taps) != 0 || e != api.ErrKernel {
					t.Errorf("Compose %v: %v, %v", pair, c, e)
				}
			}
		}
	}
	for border := range 256 {
		m, e := image.Convolve(m, one, uint8(border))
		if border >= 1 && border <= 3 {
			same(t, "Convolve", m, e, row(1, 2))
		} else if !isZero(m) || e != api.ErrArg {
			t.Error(border, m, e)
		}
	}
}

// beyond returns the value of an image at any place, with a border.
func beyond(m api.Image, x, y int, border uint8) int {
	if border == api.BorderNear {
		x, y = min(max(x, 0), m.W-1), min(max(y, 0), m.H-1)
	}
	for ; border == api.BorderWrap && x < 0; x += m.W {
	}
	for ; border == api.BorderWrap && y < 0; y += m.H {
	}
	if border == api.BorderWrap {
		x, y = x%m.W, y%m.H
	}
	v, _ := at(m, x, y)
	return v
}

// convolved is the convolution with long numbers.
func convolved(m api.Image, k api.Kernel, border uint8) api.Image {
	return perPixel(m.W, m.H, func(x, y int) int {
		sum := new(big.Int)
		for j := range k.H {
			for i := range k.W {
				u, v := i-(k.W-1)/2, j-(k.H-1)/2
				sum.Add(sum, new(big.Int).Mul(number(k.Taps[j*k.W+i]), number(beyond(m, x-u, y-v, border))))
			}
		}
		return brought(sum, -most, most)
	})
}

// someImages returns a part of the pool, one image of each seven.
func someImages() []api.Image {
	var list []api.Image
	for i, m := range pool() {
		if i%7 == 0 {
			list = append(list, m)
		}
	}
	return list
}

// P2.2
func TestConvolve(t *testing.T) {
	for _, m := range someImages() {
		for _, k := range kernels() {
			for border := uint8(1); border <= 3; border++ {
				got, e := image.Convolve(m, k, border)
				same(t, "Convolve", got, e, convolved(m, k, border))
			}
		}
	}
}

// P2.2
func TestComposeExamples(t *testing.T) {
	for i, x := range []struct{ a, b, want api.Kernel }{
		{kernel(3, 1, 1, 1), kernel(3, 1, 0, -1), kernel(5, 1, 1, 0, -1, -1)},
		{kernel(3, 1, 0, -1), kernel(3, 1, 1, 1), kernel(5, 1, 1, 0, -1, -1)},
		{kernel(3, 1, 2, 3), kernel(1, 1, 10, 100), kernel(3, 1, 2, 3, 10, 20, 30, 100, 200, 300)},
		{kernel(5, 1, 2, 3, 4, 5), kernel(1, -2), kernel(5, -2, -4, -6, -8, -10)},
		{kernel(1, limit), kernel(1, 2), kernel(1, limit)},
		{kernel(1, limit), kernel(1, -limit), kernel(1, -limit)},
		{kernel(3, limit, limit, 0), kernel(3, 2, -2, 1), kernel(5, limit, 0, -limit, limit, 0)},
	} {
		k, e := image.Compose(x.a, x.b)
		if e != api.OK || k.W != x.want.W || k.H != x.want.H || !slices.Equal(k.Taps, x.want.Taps) {
			t.Errorf("%d: %v, %v", i, k, e)
		}
	}
}

// composed is the composition by offsets.
func composed(a, b api.Kernel) api.Kernel {
	sums := map[[2]int]int{}
	for i, v := range a.Taps {
		for j, u := range b.Taps {
			sums[[2]int{i%a.W - a.W/2 + j%b.W - b.W/2, i/a.W - a.H/2 + j/b.W - b.H/2}] += v * u
		}
	}
	k := api.Kernel{W: a.W + b.W - 1, H: a.H + b.H - 1}
	for j := range k.H {
		for i := range k.W {
			k.Taps = append(k.Taps, brought(number(sums[[2]int{i - k.W/2, j - k.H/2}]), -limit, limit))
		}
	}
	return k
}

// P2.2
func TestCompose(t *testing.T) {
	for _, a := range kernels() {
		for _, b := range kernels() {
			k, e := image.Compose(a, b)
			if a.W+b.W > 6 || a.H+b.H > 6 {
				if e != api.ErrSize || k.W != 0 || k.H != 0 || len(k.Taps) != 0 {
					t.Fatal(a, b, k, e)
				}
				continue
			}
			want := composed(a, b)
			if e != api.OK || k.W != want.W || k.H != want.H || !slices.Equal(k.Taps, want.Taps) {
				t.Fatal(a, b, k, e)
			}
		}
	}
}

// P2.8: with BorderWrap, one convolution after the other is that with their composition.
func TestComposition(t *testing.T) {
	r := rand.New(rand.NewSource(5))
	for _, size := range sizes() {
		m := random(r, size[0], size[1], 1000)
		for _, s := range kernelSides() {
			for _, u := range kernelSides() {
				a, b := randomKernel(r, s[0], s[1], 20), randomKernel(r, u[0], u[1], 20)
				k, e := image.Compose(a, b)
				if e != api.OK {
					continue
				}
				twice := must(t)(image.Convolve(must(t)(image.Convolve(m, a, api.BorderWrap)), b, api.BorderWrap))
				once, e := image.Convolve(m, k, api.BorderWrap)
				same(t, "Convolve", once, e, twice)
			}
		}
	}
}

// P2.8: convolution is linear in the image and in the kernel, and a kernel with the one factor 1 changes nothing.
func TestLinear(t *testing.T) {
	r := rand.New(rand.NewSource(6))
	for _, size := range sizes() {
		a, b := random(r, size[0], size[1], 1000), random(r, size[0], size[1], 1000)
		sum := must(t)(image.Zip(a, b, api.ZipSum))
		for _, s := range kernelSides() {
			k, l := randomKernel(r, s[0], s[1], 100), randomKernel(r, s[0], s[1], 100)
			both := api.Kernel{W: k.W, H: k.H}
			for i := range k.Taps {
				both.Taps = append(both.Taps, k.Taps[i]+l.Taps[i])
			}
			for border := uint8(1); border <= 3; border++ {
				of := func(m api.Image, k api.Kernel) api.Image { return must(t)(image.Convolve(m, k, border)) }
				m, e := image.Zip(of(a, k), of(b, k), api.ZipSum)
				same(t, "the image", of(sum, k), e, m)
				m, e = image.Zip(of(a, k), of(a, l), api.ZipSum)
				same(t, "the kernel", of(a, both), e, m)
			}
		}
	}
	for _, m := range pool() {
		for border := uint8(1); border <= 3; border++ {
			got, e := image.Convolve(m, kernel(1, 1), border)
			same(t, "one", got, e, m)
			got, e = image.Convolve(m, kernel(3, 0, 0, 0, 0, 1, 0, 0, 0, 0), border)
			same(t, "one of nine", got, e, m)
		}
	}
}

// P2.3
func TestShapeExamples(t *testing.T) {
	for i, x := range []struct {
		m               api.Image
		s               api.Shape
		dilated, eroded api.Image
	}{
		{row(5, 1, 4), shape(3, true, true, true), row(5, 5, 4), row(1, 1, 1)},
		{row(5, 1, 4), shape(3, false, false, true), row(-most, 5, 1), row(1, 4, most)},
		{row(5, 1, 4), shape(3, true, false, false), row(1, 4, -most), row(most, 5, 1)},
		{row(5, 1, 4), shape(1, true, false, false), row(-most, -most, -most), row(most, most, most)},
		{row(5, 1, 4), shape(1, true), row(5, 1, 4), row(5, 1, 4)},
		{img(1, 5, 1, 4), shape(1, false, false, true), img(1, -most, 5, 1), img(1, 1, 4, most)},
		{row(5, 1, 4), shape(5, true, false, false, false, true), row(4, -most, 5), row(4, most, 5)},
		{row(9), shape(5, true, true, true, true, true), row(9), row(9)},
	} {
		if m, e := image.Dilate(x.m, x.s); e != api.OK || !equal(m, x.dilated) {
			t.Errorf("%d dilated: %v, %v", i, m, e)
		}
		if m, e := image.Erode(x.m, x.s); e != api.OK || !equal(m, x.eroded) {
			t.Errorf("%d eroded: %v, %v", i, m, e)
		}
	}
	for _, s := range invalidShapes() {
		if m, e := image.Dilate(row(1, 2), s); !isZero(m) || e != api.ErrKernel {
			t.Errorf("Dilate %v: %v, %v", s, m, e)
		}
		if m, e := image.Erode(row(1, 2), s); !isZero(m) || e != api.ErrKernel {
			t.Errorf("Erode %v: %v, %v", s, m, e)
		}
	}
}

// extremes returns the least and the greatest value of an image at a place plus some factor times an offset of a shape.
func extremes(m api.Image, s api.Shape, x, y, factor int) (int, int) {
	lesser, greater := most, -most
	for j := range s.H {
		for i := range s.W {
			v, ok := at(m, x+factor*(i-(s.W-1)/2), y+factor*(j-(s.H-1)/2))
			if ok && s.In[j*s.W+i] {
				lesser, greater = min(lesser, v), max(greater, v)
			}
		}
	}
	return lesser, greater
}

// P2.3
func TestShapes(t *testing.T) {
	for _, m := range pool() {
		for _, s := range shapes() {
			got, e := image.Dilate(m, s)
			same(t, "Dilate", got, e, perPixel(m.W, m.H, func(x, y int) int {
				_, greater := extremes(m, s, x, y, -1)
				return greater
			}))
			got, e = image.Erode(m, s)
			same(t, "Erode", got, e, perPixel(m.W, m.H, func(x, y int) int {
				lesser, _ := extremes(m, s, x, y, 1)
				return lesser
			}))
		}
	}
}

// nowhereGreater reports whether a is nowhere greater than b.
func nowhereGreater(a, b api.Image) bool {
	for i, v := range a.Pix {
		if v > b.Pix[i] {
			return false
		}
	}
	return true
}

// P2.7: dilating and eroding belong together; what follows from it.
func TestAdjunction(t *testing.T) {
	for _, s := range shapes() {
		dilate := func(m api.Image) api.Image { return must(t)(image.Dilate(m, s)) }
		erode := func(m api.Image) api.Image { return must(t)(image.Erode(m, s)) }
		for _, m := range pool() {
			opened, closed := dilate(erode(m)), erode(dilate(m))
			if !nowhereGreater(opened, m) || !nowhereGreater(m, closed) {
				t.Fatal(m, s, opened, closed)
			}
			same(t, "opened twice", dilate(erode(opened)), api.OK, opened)
			same(t, "closed twice", erode(dilate(closed)), api.OK, closed)
		}
		adjoined(t, dilate, erode)
	}
}

// adjoined tests the law for pairs of images, of which about half are so near to each other that it holds by a little, and for what passes through both.
func adjoined(t *testing.T, dilate, erode func(m api.Image) api.Image) {
	r := rand.New(rand.NewSource(7))
	for _, size := range sizes() {
		for range 6 {
			a, c := random(r, size[0], size[1], 2), random(r, size[0], size[1], 2)
			b := dilate(a)
			b.Pix[r.Intn(len(b.Pix))] += r.Intn(3) - 1
			for i, v := range b.Pix {
				b.Pix[i] = max(v, -most)
			}
			for _, b := range []api.Image{b, c} {
				if nowhereGreater(dilate(a), b) != nowhereGreater(a, erode(b)) {
					t.Fatal(a, b)
				}
			}
			greater, lesser := must(t)(image.Zip(a, c, api.ZipMost)), must(t)(image.Zip(a, c, api.ZipLeast))
			same(t, "dilated", dilate(greater), api.OK, must(t)(image.Zip(dilate(a), dilate(c), api.ZipMost)))
			same(t, "eroded", erode(lesser), api.OK, must(t)(image.Zip(erode(a), erode(c), api.ZipLeast)))
		}
	}
}
