package image_test

import (
	"math/rand"
	"slices"
	"testing"

	"sightbench/api"
	"sightbench/image"
)

// given is what calls are given; Zip and Compose take two images and two kernels.
type given struct {
	m, b  api.Image
	k, l  api.Kernel
	shape api.Shape
}

// result is all that a call can return.
type result struct {
	m api.Image
	k api.Kernel
	// list has the sums, numbers the count of parts or the sum of a rectangle.
	list   []int
	number int
	e      api.Errno
}

func ofImage(m api.Image, e api.Errno) result { return result{m: m, e: e} }

func ofList(list []int, e api.Errno) result { return result{list: list, e: e} }

func ofParts(m api.Image, n int, e api.Errno) result { return result{m: m, number: n, e: e} }

func (r result) isZero() bool {
	return isZero(r.m) && r.k.W == 0 && r.k.H == 0 && len(r.k.Taps) == 0 && len(r.list) == 0 && r.number == 0
}

func (r result) equal(q result) bool {
	return equal(r.m, q.m) && r.k.W == q.k.W && r.k.H == q.k.H && slices.Equal(r.k.Taps, q.k.Taps) && slices.Equal(r.list, q.list) && r.number == q.number && r.e == q.e
}

// calls returns all calls that are given images, by their names.
func calls() map[string]func(g given) result {
	return map[string]func(g given) result{
		"Point": func(g given) result { return ofImage(image.Point(g.m, point(3, 1, 2, -100, 100))) },
		"Zip":   func(g given) result { return ofImage(image.Zip(g.m, g.b, api.ZipSum)) },
		"Convolve zero": func(g given) result {
			return ofImage(image.Convolve(g.m, g.k, api.BorderZero))
		},
		"Convolve near": func(g given) result {
			return ofImage(image.Convolve(g.m, g.k, api.BorderNear))
		},
		"Convolve wrap": func(g given) result {
			return ofImage(image.Convolve(g.m, g.k, api.BorderWrap))
		},
		"Dilate":   func(g given) result { return ofImage(image.Dilate(g.m, g.shape)) },
		"Erode":    func(g given) result { return ofImage(image.Erode(g.m, g.shape)) },
		"Distance": func(g given) result { return ofImage(image.Distance(g.m)) },
		"Label":    func(g given) result { return ofParts(image.Label(g.m, false)) },
		"Label 8":  func(g given) result { return ofParts(image.Label(g.m, true)) },
		"Basins":   func(g given) result { return ofParts(image.Basins(g.m)) },
		"Rows":     func(g given) result { return ofList(image.Rows(g.m)) },
		"Cols":     func(g given) result { return ofList(image.Cols(g.m)) },
		"Integral": func(g given) result { return ofList(image.Integral(g.m)) },
		"Box": func(g given) result {
			n, e := image.Box(g.m, 0, 0, 1, 1)
			return result{number: n, e: e}
		},
		"Warp": func(g given) result {
			return ofImage(image.Warp(g.m, api.Warp{A: 1, E: 1, Den: 1}, max(1, min(g.m.W, 16)), max(1, min(g.m.H, 16)), 5))
		},
		"Turn": func(g given) result { return ofImage(image.Turn(g.m)) },
		"Flip": func(g given) result { return ofImage(image.Flip(g.m)) },
	}
}

func composeCall(g given) result {
	k, e := image.Compose(g.k, g.l)
	return result{k: k, e: e}
}

// P1 (R1, R2, R5, R6): an invalid image leads to ErrImage before any other error, with zero values.
func TestBadImages(t *testing.T) {
	for _, bad := range invalidImages() {
		for name, call := range calls() {
			for _, g := range []given{{m: bad, b: row(1, 2), k: kernel(1, 1), shape: shape(1, true)}, {m: bad, b: bad, k: kernel(1, 1), shape: shape(1, true)}, {m: bad}} {
				if r := call(g); !r.isZero() || r.e != api.ErrImage {
					t.Errorf("%s of %v: %v", name, bad, r)
				}
			}
		}
		for _, r := range []result{
			ofImage(image.Point(bad, api.Point{})),
			ofImage(image.Zip(bad, row(1, 2), 0)),
			ofImage(image.Zip(row(1, 2), bad, 0)),
			ofImage(image.Zip(row(1, 2), bad, 1)),
			ofImage(image.Convolve(bad, api.Kernel{}, 0)),
			ofImage(image.Warp(bad, api.Warp{}, 0, 0, least)),
		} {
			if !r.isZero() || r.e != api.ErrImage {
				t.Errorf("%v: %v", bad, r)
			}
		}
		if n, e := image.Box(bad, -1, over, least, 0); n != 0 || e != api.ErrImage {
			t.Errorf("Box of %v: %v, %v", bad, n, e)
		}
	}
}

// P1 (R1): of several errors the first one that is named is returned.
func TestFirstError(t *testing.T) {
	bad, large := kernel(3, 1), kernel(5, 1, 2, 3, 4, 5)
	for i, r := range []struct {
		got  result
		want api.Errno
	}{
		{ofImage(image.Zip(row(1, 2), row(1), 0)), api.ErrSize},
		{ofImage(image.Zip(row(1, 2), row(1), 7)), api.ErrSize},
		{ofImage(image.Convolve(row(1, 2), bad, 0)), api.ErrKernel},
		{ofImage(image.Convolve(row(1, 2), bad, 9)), api.ErrKernel},
		{composeCall(given{k: large, l: bad}), api.ErrKernel},
		{composeCall(given{k: bad, l: large}), api.ErrKernel},
		{composeCall(given{k: large, l: large}), api.ErrSize},
	} {
		if !r.got.isZero() || r.got.e != r.want {
			t.Errorf("%d: %v", i, r.got)
		}
	}
}

// roomy returns a copy of a list with more memory behind its end, and all of that memory.
func roomy[T any](list []T, mark T) ([]T, []T) {
	all := append(slices.Clone(list), slices.Repeat([]T{mark}, 300)...)
	return all[:len(list)], all
}

// watched returns the same arguments with marks in the memory behind their ends, and a function that reports whether any of it was changed.
func (g given) watched() (given, func() bool) {
	var all [4][]int
	c := g
	c.m.Pix, all[0] = roomy(g.m.Pix, 77)
	c.b.Pix, all[1] = roomy(g.b.Pix, 77)
	c.k.Taps, all[2] = roomy(g.k.Taps, 77)
	c.l.Taps, all[3] = roomy(g.l.Taps, 77)
	in, marks := roomy(g.shape.In, true)
	c.shape.In = in
	before := [4][]int{}
	for i, list := range all {
		before[i] = slices.Clone(list)
	}
	marksBefore := slices.Clone(marks)
	return c, func() bool {
		for i, list := range all {
			if !slices.Equal(list, before[i]) {
				return true
			}
		}
		return !slices.Equal(marks, marksBefore)
	}
}

// spoil writes into all memory of a result, also behind the ends of its lists.
func (r result) spoil() {
	for _, list := range [][]int{r.m.Pix, r.k.Taps, r.list} {
		list = list[:cap(list)]
		for i := range list {
			list[i] = -99
		}
	}
}

// P1 (R3): arguments are only read, results share no memory with them, and nothing is kept from one call to the next.
func TestMemory(t *testing.T) {
	all := calls()
	all["Compose"] = composeCall
	r := rand.New(rand.NewSource(12))
	for _, m := range someImages() {
		g := given{m: m, b: random(r, m.W, m.H, 9), k: kernel(3, 1, 2, 3), l: kernel(1, 1, 2, 3), shape: shape(3, true, false, true)}
		for name, call := range all {
			c, changed := g.watched()
			first := call(c)
			if first.e != api.OK || changed() {
				t.Fatal(name, m, first)
			}
			kept := first
			kept.m.Pix, kept.k.Taps, kept.list = slices.Clone(first.m.Pix), slices.Clone(first.k.Taps), slices.Clone(first.list)
			first.spoil()
			if changed() || !call(c).equal(kept) {
				t.Fatal(name, m, "shared memory")
			}
		}
	}
}

// P1 (R3): the two arguments of a call may be the same memory.
func TestSameArgument(t *testing.T) {
	m := img(2, 1, 2, 3, 4)
	got, e := image.Zip(m, m, api.ZipProduct)
	same(t, "Zip", got, e, img(2, 1, 4, 9, 16))
	same(t, "the argument", m, api.OK, img(2, 1, 2, 3, 4))
	k := kernel(3, 1, 2, 3)
	if c, e := image.Compose(k, k); e != api.OK || !slices.Equal(c.Taps, []int{1, 4, 10, 12, 9}) || !slices.Equal(k.Taps, []int{1, 2, 3}) {
		t.Error(c, e, k)
	}
}

// P1 (R6): what the functions return is valid.
func TestResultsAreValid(t *testing.T) {
	for _, m := range pool() {
		for _, k := range []api.Kernel{kernel(1, limit), kernel(3, limit, -limit, limit)} {
			for name, call := range calls() {
				r := call(given{m: m, b: m, k: k, shape: shape(3, true, false, false)})
				if r.e != api.OK || !isZero(r.m) && image.Check(r.m) != api.OK {
					t.Fatal(name, m, r)
				}
			}
		}
	}
	for _, k := range kernels() {
		if c, e := image.Compose(k, kernel(1, limit)); e != api.OK {
			t.Fatal(k, e)
		} else if _, e := image.Convolve(row(1), c, api.BorderZero); e != api.OK {
			t.Fatal(k, c, e)
		}
	}
}

// P1 (R7): no call panics, whatever the arguments are.
func TestExtremes(t *testing.T) {
	images := append(invalidImages(), row(most), filled(16, 16, -most), img(1, 0, most))
	kernels := append(invalidKernels(), kernel(5, limit, -limit, limit, -limit, limit))
	shapes := append(invalidShapes(), shape(1, true))
	all := calls()
	all["Compose"] = composeCall
	r := rand.New(rand.NewSource(13))
	for range 2000 {
		g := given{images[r.Intn(len(images))], images[r.Intn(len(images))], kernels[r.Intn(len(kernels))], kernels[r.Intn(len(kernels))], shapes[r.Intn(len(shapes))]}
		for _, call := range all {
			call(g)
		}
	}
	numbers := []int{least, least + 1, -most - 1, -most, -1, 0, 1, 16, 17, most, most + 1, over}
	n := func() int { return numbers[r.Intn(len(numbers))] }
	for range 20000 {
		m := images[r.Intn(len(images))]
		image.Box(m, n(), n(), n(), n())
		image.Point(m, point(n(), n(), n(), n(), n()))
		image.Warp(m, api.Warp{A: n(), B: n(), C: n(), D: n(), E: n(), F: n(), Den: n()}, n(), n(), n())
		image.Warp(m, api.Warp{A: limit, B: -limit, C: limit, D: limit, E: -limit, F: -limit, Den: 1}, n(), n(), n())
	}
}
