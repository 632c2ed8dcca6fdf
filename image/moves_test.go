package image_test

import (
	"math/rand"
	"testing"

	"sightbench/api"
	"sightbench/image"
)

// P2.6
func TestWarpExamples(t *testing.T) {
	m := row(1, 2, 3)
	rows := img(3, 1, 2, 3, 4, 5, 6)
	for i, x := range []struct {
		m          api.Image
		t          api.Warp
		w, h, fill int
		want       api.Image
	}{
		{m, api.Warp{A: 1, E: 1, C: 1, Den: 2}, 4, 1, 9, row(2, 2, 3, 3)},
		{m, api.Warp{A: 1, E: 1, Den: 2}, 4, 1, 9, row(1, 2, 2, 3)},
		{m, api.Warp{A: 1, E: 1, C: 1, Den: 1}, 4, 1, 9, row(2, 3, 9, 9)},
		{m, api.Warp{A: 1, E: 1, C: -1, Den: 1}, 4, 1, 9, row(9, 1, 2, 3)},
		{m, api.Warp{A: 1, E: 1, C: -1, Den: 2}, 2, 1, 9, row(1, 1)},
		{m, api.Warp{A: 2, E: 2, C: -2, Den: 3}, 2, 1, 9, row(9, 1)},
		{m, api.Warp{A: -1, E: 1, C: 2, Den: 1}, 3, 1, 9, row(3, 2, 1)},
		{m, api.Warp{A: 1, F: -1, Den: 2}, 1, 1, 9, row(1)},
		{m, api.Warp{A: 1, F: 1, Den: 2}, 1, 1, 9, row(9)},
		{m, api.Warp{A: 1, F: -2, Den: 3}, 1, 1, 9, row(9)},
		{m, api.Warp{Den: 1}, 2, 2, 9, img(2, 1, 1, 1, 1)},
		{m, api.Warp{C: limit, Den: limit}, 1, 1, 9, row(2)},
		{m, api.Warp{A: limit, B: limit, C: limit, D: limit, E: limit, F: limit, Den: 1}, 2, 1, -most, row(-most, -most)},
		{m, api.Warp{A: -limit, B: -limit, C: -limit, D: -limit, E: -limit, F: -limit, Den: 1}, 2, 1, most, row(most, most)},
		{rows, api.Warp{B: 1, D: 1, Den: 1}, 2, 3, 9, img(2, 1, 4, 2, 5, 3, 6)},
		{rows, api.Warp{A: 1, E: 1, F: 1, Den: 1}, 3, 2, 0, img(3, 4, 5, 6, 0, 0, 0)},
	} {
		if got, e := image.Warp(x.m, x.t, x.w, x.h, x.fill); e != api.OK || !equal(got, x.want) {
			t.Errorf("%d: %v, %v", i, got, e)
		}
	}
}

// P2.6
func TestWarpErrors(t *testing.T) {
	same := api.Warp{A: 1, E: 1, Den: 1}
	for _, x := range invalidWarps() {
		if m, e := image.Warp(row(1, 2), x, 1, 1, 0); !isZero(m) || e != api.ErrArg {
			t.Errorf("Warp %v: %v, %v", x, m, e)
		}
	}
	for _, x := range [][3]int{{0, 1, 0}, {1, 0, 0}, {17, 1, 0}, {1, 17, 0}, {-1, 1, 0}, {1, -1, 0}, {over, 1, 0}, {1, over, 0}, {least, 1, 0}, {1, least, 0}, {over, over, 0}, {1, 1, most + 1}, {1, 1, -most - 1}, {1, 1, over}, {1, 1, least}} {
		if m, e := image.Warp(row(1, 2), same, x[0], x[1], x[2]); !isZero(m) || e != api.ErrArg {
			t.Errorf("Warp %v: %v, %v", x, m, e)
		}
	}
	for w := 1; w <= 16; w++ {
		if m, e := image.Warp(row(1, 2), same, w, 17-w, most); e != api.OK || image.Check(m) != api.OK || m.W != w || m.H != 17-w {
			t.Error(w, m, e)
		}
	}
}

// isSource reports whether s is n / d plus one half, rounded down.
func isSource(s, n, d int) bool { return 2*d*s <= 2*n+d && 2*n+d < 2*d*(s+1) }

// warped searches the source of each pixel among all pixels.
func warped(m api.Image, t api.Warp, w, h, fill int) api.Image {
	return perPixel(w, h, func(x, y int) int {
		for i, v := range m.Pix {
			if isSource(i%m.W, t.A*x+t.B*y+t.C, t.Den) && isSource(i/m.W, t.D*x+t.E*y+t.F, t.Den) {
				return v
			}
		}
		return fill
	})
}

// P2.6
func TestWarp(t *testing.T) {
	r := rand.New(rand.NewSource(10))
	for _, m := range pool() {
		for range 8 {
			den := 1 + r.Intn(9)
			size := []int{1, den, 3 * den, limit}[r.Intn(4)]
			n := func() int { return r.Intn(2*size+1) - size }
			x := api.Warp{A: n(), B: n(), C: n(), D: n(), E: n(), F: n(), Den: den}
			if size == limit {
				x.Den = limit - r.Intn(limit/2)
			}
			w, h, fill := 1+r.Intn(16), 1+r.Intn(16), r.Intn(2*most+1)-most
			got, e := image.Warp(m, x, w, h, fill)
			same(t, "Warp", got, e, warped(m, x, w, h, fill))
		}
	}
}

// P2.10: a warp by nothing changes nothing within the image, and one by whole numbers of pixels moves it.
func TestWholeWarps(t *testing.T) {
	r := rand.New(rand.NewSource(11))
	for _, m := range pool() {
		den := 1 + r.Intn(limit)
		got, e := image.Warp(m, api.Warp{A: den, E: den, Den: den}, m.W, m.H, 3)
		same(t, "Warp", got, e, m)
		dx, dy := r.Intn(7)-3, r.Intn(7)-3
		den = 1 + r.Intn(100)
		got, e = image.Warp(m, api.Warp{A: den, C: dx * den, E: den, F: dy * den, Den: den}, 16, 16, 3)
		same(t, "Warp", got, e, perPixel(16, 16, func(x, y int) int {
			if v, ok := at(m, x+dx, y+dy); ok {
				return v
			}
			return 3
		}))
	}
}

// P2.6
func TestTurnFlipExamples(t *testing.T) {
	m := img(3, 1, 2, 3, 4, 5, 6)
	turned, e := image.Turn(m)
	same(t, "Turn", turned, e, img(2, 4, 1, 5, 2, 6, 3))
	flipped, e := image.Flip(m)
	same(t, "Flip", flipped, e, img(3, 3, 2, 1, 6, 5, 4))
}

// P2.6
func TestTurnFlip(t *testing.T) {
	for _, m := range pool() {
		got, e := image.Turn(m)
		same(t, "Turn", got, e, perPixel(m.H, m.W, func(x, y int) int {
			v, _ := at(m, y, m.H-1-x)
			return v
		}))
		got, e = image.Flip(m)
		same(t, "Flip", got, e, perPixel(m.W, m.H, func(x, y int) int {
			v, _ := at(m, m.W-1-x, y)
			return v
		}))
	}
}

// P2.10: the laws of turns and flips; point operations and Zip go through both.
func TestTurnLaws(t *testing.T) {
	turn := func(m api.Image) api.Image { return must(t)(image.Turn(m)) }
	flip := func(m api.Image) api.Image { return must(t)(image.Flip(m)) }
	for _, m := range pool() {
		same(t, "four turns", turn(turn(turn(turn(m)))), api.OK, m)
		same(t, "two flips", flip(flip(m)), api.OK, m)
		same(t, "a flip, a turn, a flip and a turn", turn(flip(turn(flip(m)))), api.OK, m)
		other := must(t)(image.Point(m, point(-3, 5, 2, -1000, most)))
		for _, move := range []func(m api.Image) api.Image{turn, flip} {
			for _, p := range points()[:6] {
				of := func(m api.Image) api.Image { return must(t)(image.Point(m, p)) }
				same(t, "Point", of(move(m)), api.OK, move(of(m)))
			}
			for how := uint8(1); how <= 6; how++ {
				of := func(a, b api.Image) api.Image { return must(t)(image.Zip(a, b, how)) }
				same(t, "Zip", of(move(m), move(other)), api.OK, move(of(m, other)))
			}
		}
	}
}
