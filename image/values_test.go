package image_test

import (
	"math/big"
	"math/rand"
	"slices"
	"testing"

	"sightbench/api"
	"sightbench/image"
)

// P2.1
func TestPointExamples(t *testing.T) {
	for i, x := range []struct {
		v    int
		p    api.Point
		want int
	}{
		{7, point(-1, 0, 2, -100, 100), -4},
		{7, point(100, 0, 1, 0, 255), 255},
		{7, point(1, 0, 2, -100, 100), 3},
		{-7, point(1, 0, 2, -100, 100), -4},
		{-8, point(1, 0, 2, -100, 100), -4},
		{0, point(1, -1, limit, -100, 100), -1},
		{0, point(0, 0, 1, 5, 9), 5},
		{0, point(0, 0, 1, -9, -5), -5},
		{3, point(0, 8, 1, 8, 8), 8},
		{most, point(limit, most, 1, -most, most), most},
		{-most, point(limit, -most, 1, -most, most), -most},
		{most, point(-limit, 0, limit, -most, most), -most},
		{most, point(limit, most, limit, -most, most), most},
		{most - limit, point(limit, most, limit, -most, most), most - limit/2},
		{12345, point(1, 0, 1, -most, most), 12345},
	} {
		m, e := image.Point(row(x.v), x.p)
		if e != api.OK || !equal(m, row(x.want)) {
			t.Errorf("%d: %v, %v", i, m, e)
		}
	}
}

// P2.1
func TestPointErrors(t *testing.T) {
	for _, p := range invalidPoints() {
		if m, e := image.Point(row(1, 2), p); !isZero(m) || e != api.ErrArg {
			t.Errorf("Point %v: %v, %v", p, m, e)
		}
	}
}

func points() []api.Point {
	r := rand.New(rand.NewSource(4))
	list := []api.Point{point(1, 0, 1, -most, most), point(limit, most, limit, -most, most), point(-limit, -most, 1, -most, most), point(-1, 0, 3, -4, 4), point(0, -1, 2, -most, -most), point(5, 1, limit, 0, 255)}
	for range 20 {
		lo := r.Intn(2*most+1) - most
		list = append(list, point(r.Intn(2*limit+1)-limit, r.Intn(2*most+1)-most, 1+r.Intn(limit), lo, lo+r.Intn(most-lo+1)))
		list = append(list, point(r.Intn(9)-4, r.Intn(9)-4, 1+r.Intn(4), -r.Intn(100), r.Intn(100)))
	}
	return list
}

// P2.1: the same with long numbers.
func TestPoint(t *testing.T) {
	for _, m := range pool() {
		for _, p := range points() {
			got, e := image.Point(m, p)
			same(t, "Point", got, e, perPixel(m.W, m.H, func(x, y int) int {
				v, _ := at(m, x, y)
				n := new(big.Int).Mul(number(p.Mul), number(v))
				return brought(floor(n.Add(n, number(p.Add)), number(p.Div)), p.Lo, p.Hi)
			}))
		}
	}
}

// P2.1
func TestZipExamples(t *testing.T) {
	for i, x := range []struct{ a, b, sum, difference, lesser, greater, product, distance int }{
		{most, 1, most, most - 1, 1, most, most, most - 1},
		{-most, 1, 1 - most, -most, -most, 1, -most, most},
		{5, -3, 2, 8, -3, 5, -15, 8},
		{-3, 5, 2, -8, -3, 5, -15, 8},
		{0, 0, 0, 0, 0, 0, 0, 0},
		{most, most, most, 0, most, most, most, 0},
		{-most, most, 0, -most, -most, most, -most, most},
		{most, -most, 0, most, -most, most, -most, most},
		{-most, -most, -most, 0, -most, -most, most, 0},
		{1 << 16, 1 << 15, 3 << 15, 1 << 15, 1 << 15, 1 << 16, most, 1 << 15},
		{1<<16 - 1, -1 << 15, 1<<15 - 1, 3<<15 - 1, -1 << 15, 1<<16 - 1, 1<<15 - most, 3<<15 - 1},
	} {
		for how, want := range map[uint8]int{api.ZipSum: x.sum, api.ZipDifference: x.difference, api.ZipLeast: x.lesser, api.ZipMost: x.greater, api.ZipProduct: x.product, api.ZipDistance: x.distance} {
			m, e := image.Zip(row(x.a), row(x.b), how)
			if e != api.OK || !equal(m, row(want)) {
				t.Errorf("%d, %d: %v, %v instead of %d", i, how, m, e, want)
			}
		}
	}
}

// P2.1
func TestZipErrors(t *testing.T) {
	for how := range 256 {
		m, e := image.Zip(row(1, 2), row(3, 4), uint8(how))
		if how >= 1 && how <= 6 {
			if e != api.OK || m.W != 2 || m.H != 1 {
				t.Error(how, m, e)
			}
		} else if !isZero(m) || e != api.ErrArg {
			t.Error(how, m, e)
		}
		for _, b := range []api.Image{row(1), row(1, 2, 3), img(1, 1, 2), img(2, 1, 2, 3, 4)} {
			if m, e := image.Zip(row(1, 2), b, uint8(how)); !isZero(m) || e != api.ErrSize {
				t.Error(how, b, m, e)
			}
		}
	}
}

// P2.1: the same with long numbers, in each pixel.
func TestZip(t *testing.T) {
	long := map[uint8]func(a, b *big.Int) *big.Int{
		1: func(a, b *big.Int) *big.Int { return new(big.Int).Add(a, b) },
		2: func(a, b *big.Int) *big.Int { return new(big.Int).Sub(a, b) },
		3: func(a, b *big.Int) *big.Int {
			if a.Cmp(b) < 0 {
				return a
			}
			return b
		},
		4: func(a, b *big.Int) *big.Int {
			if a.Cmp(b) > 0 {
				return a
			}
			return b
		},
		5: func(a, b *big.Int) *big.Int { return new(big.Int).Mul(a, b) },
		6: func(a, b *big.Int) *big.Int { n := new(big.Int).Sub(a, b); return n.Abs(n) },
	}
	for _, a := range pool() {
		for _, b := range pool() {
			if a.W != b.W || a.H != b.H {
				continue
			}
			for how, f := range long {
				got, e := image.Zip(a, b, how)
				same(t, "Zip", got, e, perPixel(a.W, a.H, func(x, y int) int {
					v, _ := at(a, x, y)
					u, _ := at(b, x, y)
					return brought(f(number(v), number(u)), -most, most)
				}))
			}
		}
	}
}

// P2.5
func TestSumExamples(t *testing.T) {
	m := img(2, 1, 2, 3, 4)
	for i, x := range []struct {
		how  func(m api.Image) ([]int, api.Errno)
		m    api.Image
		want []int
	}{
		{image.Rows, m, []int{3, 7}},
		{image.Cols, m, []int{4, 6}},
		{image.Integral, m, []int{0, 0, 0, 0, 1, 3, 0, 4, 10}},
		{image.Rows, row(1, 2, -7), []int{-4}},
		{image.Cols, row(1, 2, -7), []int{1, 2, -7}},
		{image.Integral, row(1, 2, -7), []int{0, 0, 0, 0, 0, 1, 3, -4}},
		{image.Rows, row(most, most), []int{2 * most}},
		{image.Cols, img(1, -most, -most, -most), []int{-3 * most}},
	} {
		if list, e := x.how(x.m); e != api.OK || !slices.Equal(list, x.want) {
			t.Errorf("%d: %v, %v", i, list, e)
		}
	}
	full := filled(16, 16, most)
	if list, e := image.Integral(full); e != api.OK || list[len(list)-1] != 256*most {
		t.Error(list, e)
	}
	if n, e := image.Box(full, 0, 0, 16, 16); e != api.OK || n != 256*most {
		t.Error(n, e)
	}
}

// boxSum returns the sum of the values of all pixels of a rectangle.
func boxSum(m api.Image, x0, y0, x1, y1 int) int {
	sum := 0
	for y := y0; y < y1; y++ {
		for x := x0; x < x1; x++ {
			sum += m.Pix[y*m.W+x]
		}
	}
	return sum
}

// P2.5, P2.10: sums of rows, columns and rectangles; each Box is two numbers of Integral less two others.
func TestSums(t *testing.T) {
	for _, m := range pool() {
		rows, e := image.Rows(m)
		cols, f := image.Cols(m)
		if e != api.OK || f != api.OK || len(rows) != m.H || len(cols) != m.W {
			t.Fatal(m, rows, cols, e, f)
		}
		all, every := 0, 0
		for y, n := range rows {
			all += n
			if n != boxSum(m, 0, y, m.W, y+1) {
				t.Fatal(m, y, n)
			}
		}
		for x, n := range cols {
			every += n
			if n != boxSum(m, x, 0, x+1, m.H) {
				t.Fatal(m, x, n)
			}
		}
		if all != every {
			t.Fatal(m, all, every)
		}
		boxes(t, m)
	}
}

// boxes compares the rectangles of an image with its integral image; of a large image only some.
func boxes(t *testing.T, m api.Image) {
	list, e := image.Integral(m)
	if e != api.OK || len(list) != (m.W+1)*(m.H+1) {
		t.Fatal(m, list, e)
	}
	at := func(i, j int) int { return list[j*(m.W+1)+i] }
	step := 1 + m.W*m.H/40
	for y0 := 0; y0 <= m.H; y0++ {
		for x0 := 0; x0 <= m.W; x0++ {
			if at(x0, y0) != boxSum(m, 0, 0, x0, y0) {
				t.Fatal(m, x0, y0)
			}
			for y1 := y0; y1 <= m.H; y1 += step {
				for x1 := x0; x1 <= m.W; x1 += step {
					n, e := image.Box(m, x0, y0, x1, y1)
					if e != api.OK || n != boxSum(m, x0, y0, x1, y1) || n != at(x1, y1)+at(x0, y0)-at(x0, y1)-at(x1, y0) {
						t.Fatal(m, x0, y0, x1, y1, n, e)
					}
				}
			}
		}
	}
}

// P2.5
func TestBoxErrors(t *testing.T) {
	m := img(3, 1, 2, 3, 4, 5, 6)
	numbers := []int{least, -1, 0, 1, 2, 3, 4, over}
	for _, x0 := range numbers {
		for _, y0 := range numbers {
			for _, x1 := range numbers {
				for _, y1 := range numbers {
					n, e := image.Box(m, x0, y0, x1, y1)
					if 0 <= x0 && x0 <= x1 && x1 <= 3 && 0 <= y0 && y0 <= y1 && y1 <= 2 {
						if e != api.OK || n != boxSum(m, x0, y0, x1, y1) {
							t.Error(x0, y0, x1, y1, n, e)
						}
					} else if n != 0 || e != api.ErrArg {
						t.Error(x0, y0, x1, y1, n, e)
					}
				}
			}
		}
	}
}
