package image_test

import (
	"math/rand"
	"testing"

	"sightbench/api"
	"sightbench/image"
)

// P2.4
func TestDistanceExamples(t *testing.T) {
	for i, x := range []struct{ m, want api.Image }{
		{row(3, 0, 7, 7), row(1, 0, 1, 2)},
		{row(4), row(2)},
		{row(0), row(0)},
		{row(-1, -1, 0), row(2, 1, 0)},
		{img(2, 1, 1, 1, 1, 1, 1), img(2, 5, 5, 5, 5, 5, 5)},
		{img(3, 1, 1, 1, 1, 1, 1, 1, 1, 0), img(3, 4, 3, 2, 3, 2, 1, 2, 1, 0)},
		{img(3, 0, 1, 1, 1, 1, 1, 1, 1, 0), img(3, 0, 1, 2, 1, 2, 1, 2, 1, 0)},
	} {
		if m, e := image.Distance(x.m); e != api.OK || !equal(m, x.want) {
			t.Errorf("%d: %v, %v", i, m, e)
		}
	}
}

// masks returns images with many zeros, a few, one or none, and with values below 0.
func masks() []api.Image {
	r := rand.New(rand.NewSource(8))
	list := pool()
	for _, s := range sizes() {
		for _, chance := range []int{2, 3, 10, 300} {
			m := filled(s[0], s[1], 0)
			for i := range m.Pix {
				if r.Intn(chance) > 0 {
					m.Pix[i] = 1 - 2*r.Intn(2)
				}
			}
			list = append(list, m)
		}
		one := filled(s[0], s[1], most)
		one.Pix[r.Intn(len(one.Pix))] = 0
		list = append(list, one)
	}
	return list
}

func steps(m api.Image, i, j int) int {
	x, y := i%m.W-j%m.W, i/m.W-j/m.W
	return max(x, -x) + max(y, -y)
}

// P2.4
func TestDistance(t *testing.T) {
	for _, m := range masks() {
		got, e := image.Distance(m)
		same(t, "Distance", got, e, perPixel(m.W, m.H, func(x, y int) int {
			d := m.W + m.H
			for j, v := range m.Pix {
				if v == 0 {
					d = min(d, steps(m, y*m.W+x, j))
				}
			}
			return d
		}))
	}
}

// neighbours calls see for the numbers of all pairs of (four) neighbours, in both orders.
func neighbours(m api.Image, see func(i, j int)) {
	for i := range m.Pix {
		for j := range m.Pix {
			if steps(m, i, j) == 1 {
				see(i, j)
			}
		}
	}
}

// P2.9: distances are 0 for zeros, change by at most 1, and get less by 1 in some direction.
func TestDistances(t *testing.T) {
	for _, m := range masks() {
		d, some := must(t)(image.Distance(m)), false
		nearer := make([]bool, len(m.Pix))
		for i, v := range m.Pix {
			some = some || v == 0
			if (d.Pix[i] == 0) != (v == 0) {
				t.Fatal(m, d)
			}
		}
		neighbours(m, func(i, j int) {
			if d.Pix[i]-d.Pix[j] > 1 {
				t.Fatal(m, d)
			}
			nearer[i] = nearer[i] || d.Pix[j] == d.Pix[i]-1
		})
		for i, v := range m.Pix {
			if some && v != 0 && !nearer[i] {
				t.Fatal(m, d, i)
			}
		}
	}
}

// P2.4
func TestLabelExamples(t *testing.T) {
	for i, x := range []struct {
		m, want api.Image
		eight   bool
		count   int
	}{
		{img(2, 1, 0, 0, 9), img(2, 1, 0, 0, 2), false, 2},
		{img(2, 1, 0, 0, 9), img(2, 1, 0, 0, 1), true, 1},
		{img(2, 0, -1, 5, 0), img(2, 0, 1, 2, 0), false, 2},
		{img(2, 0, -1, 5, 0), img(2, 0, 1, 1, 0), true, 1},
		{row(0), row(0), false, 0},
		{row(-3), row(1), true, 1},
		{row(0, 2, -2, 0, most, 0, 1), row(0, 1, 1, 0, 2, 0, 3), false, 3},
		{img(3, 1, 0, 1, 1, 0, 1, 1, 1, 1), img(3, 1, 0, 1, 1, 0, 1, 1, 1, 1), false, 1},
		{img(3, 0, 0, 1, 1, 0, 1, 1, 1, 1), img(3, 0, 0, 1, 1, 0, 1, 1, 1, 1), false, 1},
		{img(3, 0, 0, 1, 1, 0, 0, 0, 0, 1), img(3, 0, 0, 1, 2, 0, 0, 0, 0, 3), true, 3},
		// The order of the pixels is that of the rows: the part in the last column comes first.
		{img(4, 0, 0, 0, 1, 1, 0, 1, 1, 1, 0, 0, 0), img(4, 0, 0, 0, 1, 2, 0, 1, 1, 2, 0, 0, 0), false, 2},
		// Two arms that meet below are one part, and take one number only.
		{img(5, 1, 0, 1, 0, 1, 1, 1, 1, 0, 1), img(5, 1, 0, 1, 0, 2, 1, 1, 1, 0, 2), false, 2},
	} {
		if m, n, e := image.Label(x.m, x.eight); e != api.OK || n != x.count || !equal(m, x.want) {
			t.Errorf("%d: %v, %v, %v", i, m, n, e)
		}
	}
}

// labelled finds the parts by passing the least number of a neighbour on until nothing changes.
func labelled(m api.Image, eight bool) (api.Image, int) {
	reach := func(i, j int) bool {
		x, y := i%m.W-j%m.W, i/m.W-j/m.W
		return steps(m, i, j) == 1 || eight && max(x, -x) <= 1 && max(y, -y) <= 1
	}
	first := make([]int, len(m.Pix))
	for i := range first {
		first[i] = i
	}
	for again := true; again; {
		again = false
		for i, v := range m.Pix {
			for j, u := range m.Pix {
				if v != 0 && u != 0 && first[j] < first[i] && reach(i, j) {
					first[i], again = first[j], true
				}
			}
		}
	}
	out, count := filled(m.W, m.H, 0), 0
	for i, v := range m.Pix {
		if v == 0 {
			continue
		}
		if first[i] == i {
			count++
			out.Pix[i] = count
		} else {
			out.Pix[i] = out.Pix[first[i]]
		}
	}
	return out, count
}

// spiral is one part that winds through a whole image, in the sense of four.
func spiral() api.Image {
	m := filled(16, 16, 0)
	x, y, dx, dy := 0, 0, 1, 0
	for range 200 {
		m.Pix[y*16+x] = 1
		v, ok := at(m, x+2*dx, y+2*dy)
		if _, in := at(m, x+dx, y+dy); !in || ok && v == 1 {
			dx, dy = -dy, dx
		}
		if v, in := at(m, x+dx, y+dy); !in || v == 1 {
			break
		}
		x, y = x+dx, y+dy
	}
	return m
}

// P2.4, P2.9: two neighbours with values other than 0 have the same label.
func TestLabel(t *testing.T) {
	for _, m := range append(masks(), spiral()) {
		for _, eight := range []bool{false, true} {
			want, count := labelled(m, eight)
			got, n, e := image.Label(m, eight)
			same(t, "Label", got, e, want)
			if n != count {
				t.Fatal(m, n, count)
			}
			neighbours(m, func(i, j int) {
				if m.Pix[i] != 0 && m.Pix[j] != 0 && got.Pix[i] != got.Pix[j] {
					t.Fatal(m, got)
				}
			})
		}
	}
	if _, n, e := image.Label(spiral(), false); n != 1 || e != api.OK {
		t.Error(n, e)
	}
}

// P2.4
func TestBasinsExamples(t *testing.T) {
	for i, x := range []struct {
		m, want api.Image
		count   int
	}{
		{row(3, 1, 2, 2, 0, 5), row(1, 1, 1, 2, 2, 2), 2},
		{row(7), row(1), 1},
		{row(1, 1, 1), row(1, 1, 1), 1},
		{row(1, 3, 1), row(1, 1, 2), 2},
		{img(1, 1, 3, 1), img(1, 1, 1, 2), 2},
		{row(2, 1, 1, 0), row(1, 1, 2, 2), 2},
		{row(5, 4, 3, 2, 1, 0), row(1, 1, 1, 1, 1, 1), 1},
		{img(3, 9, 1, 9, 1, 9, 1, 9, 1, 9), img(3, 1, 1, 1, 2, 1, 3, 2, 4, 3), 4},
		{img(2, 5, 0, 0, 5), img(2, 1, 1, 2, 1), 2},
		{img(2, 0, 5, 5, 0), img(2, 1, 1, 1, 2), 2},
		{img(2, -most, most, most, -most), img(2, 1, 1, 1, 2), 2},
		// Four pixels of one value: the way goes up before it goes to the left.
		{img(2, 1, 1, 1, 1), img(2, 1, 1, 1, 1), 1},
	} {
		if m, n, e := image.Basins(x.m); e != api.OK || n != x.count || !equal(m, x.want) {
			t.Errorf("%d: %v, %v, %v", i, m, n, e)
		}
	}
}

// lowest returns the lowest neighbour of each pixel.
func lowest(m api.Image) []int {
	var list []int
	for i := range m.Pix {
		best := -1
		for j, v := range m.Pix {
			if steps(m, i, j) <= 1 && (best < 0 || v < m.Pix[best]) {
				best = j
			}
		}
		list = append(list, best)
	}
	return list
}

// P2.4, P2.9: a pixel and its lowest neighbour have the same basin, and each basin has one pixel that is its own.
func TestBasins(t *testing.T) {
	r := rand.New(rand.NewSource(9))
	list := pool()
	for _, s := range sizes() {
		for range 10 {
			list = append(list, random(r, s[0], s[1], 2))
		}
	}
	for _, m := range list {
		got, n, e := image.Basins(m)
		if e != api.OK || image.Check(got) != api.OK || got.W != m.W || got.H != m.H {
			t.Fatal(m, got, n, e)
		}
		count := 0
		for i, j := range lowest(m) {
			if got.Pix[i] != got.Pix[j] {
				t.Fatal(m, got, i, j)
			}
			if i == j {
				count++
				if got.Pix[i] != count {
					t.Fatal(m, got, i)
				}
			}
		}
		if n != count {
			t.Fatal(m, n, count)
		}
	}
}
