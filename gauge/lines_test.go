package gauge_test

import (
	"math/big"
	"slices"
	"testing"

	"sightbench/api"
	"sightbench/gauge"
	"sightbench/lens"
)

// picture returns the image of some rows of the same length.
func picture(rows ...[]int) api.Image {
	return api.Image{W: len(rows[0]), H: len(rows), Pix: slices.Concat(rows...)}
}

// badImages returns images that are not valid.
func badImages() []api.Image {
	return []api.Image{
		{}, {W: 2, H: 1}, {W: 2, H: 1, Pix: []int{1, 2, 3}}, {W: 2, H: 2, Pix: []int{1, 2, 3}}, {W: 17, H: 1, Pix: make([]int, 17)}, {W: 2, H: 17, Pix: make([]int, 34)}, {W: -2, H: -1, Pix: []int{1, 2}}, {W: 0, H: 2},
		{W: 2, H: 1, Pix: []int{1, over}}, {W: 2, H: 1, Pix: []int{least, 1}}, {W: 2, H: 1, Pix: []int{1, 1<<31 + 1}}, {W: least, H: least}, {W: 1, H: 1},
	}
}

// badArguments calls see for valid images, thresholds and noises of which at least one is wrong.
func badArguments(see func(m api.Image, threshold, noise int)) {
	m := picture([]int{0, 120}, []int{0, 0})
	for _, n := range badThresholds() {
		see(m, n, 10)
	}
	for _, n := range badNoises() {
		see(m, 60, n)
	}
	for _, m := range []api.Image{
		picture([]int{255}), picture([]int{0}, []int{0}), picture([]int{256, 0}), picture([]int{0, 256}), picture([]int{0, -1}),
		picture([]int{0, 120}, []int{0, 120}, []int{-1, 0}), picture([]int{0, 120}, []int{0, 256}, []int{0, 120}), picture([]int{0, 0}, []int{0, 1 << 31}), picture([]int{-1 << 31, 0}, []int{0, 0}),
	} {
		see(m, 60, 10)
	}
	see(picture(slices.Repeat([][]int{{0, 300}}, 16)...), 60, 10)
}

// P5.4
func TestViewsByHand(t *testing.T) {
	m := picture([]int{0, 120, 0, 120}, []int{0, 65, 0, 0}, []int{0, 0, 70, 71}, []int{49, 49, 49, 49}, []int{200, 0, 0, 0}, []int{50, 0, 0, 70}, []int{0, 120, 120, 120})
	for _, x := range []struct {
		threshold, noise int
		want             []api.View
	}{
		{60, 10, []api.View{{X: 0, Z: 1, Lo: 6, Hi: 9}, {X: 2, Z: 1, Lo: 27, Hi: 32}, {X: 4, Z: 1}, {X: 5, Z: 1, Hi: 48}, {X: 6, Z: 1, Lo: 6, Hi: 9}}},
		{60, 0, []api.View{{X: 0, Z: 1, Lo: 8, Hi: 8}, {X: 1, Z: 1, Lo: 14, Hi: 15}, {X: 2, Z: 1, Lo: 29, Hi: 30}, {X: 4, Z: 1}, {X: 5, Z: 1, Lo: 45, Hi: 46}, {X: 6, Z: 1, Lo: 8, Hi: 8}}},
		{210, 0, nil},
		{200, 1, nil},
		{199, 1, []api.View{{X: 4, Z: 1}}},
	} {
		if l := must[[]api.View](t)(gauge.Views(m, x.threshold, x.noise)); !slices.Equal(l, x.want) {
			t.Error(x, l)
		}
	}
}

// floor returns the greatest whole number that is at most x.
func floor(x *big.Rat) int { return int(new(big.Int).Div(x.Num(), x.Denom()).Int64()) }

// views returns what Views has to return for valid arguments.
func views(m api.Image, threshold, noise int) []api.View {
	var list []api.View
	for y := range m.H {
		row := m.Pix[y*m.W : (y+1)*m.W]
		low := reals(lower(row, noise)).rise(threshold, 0)
		if low == nil {
			continue
		}
		up := reals(upper(row, noise)).rise(threshold, 0)
		list = append(list, api.View{X: y, Z: 1, Lo: floor(times(up, ratio(16, 1))), Hi: -floor(times(low, ratio(-16, 1)))})
	}
	return list
}

// image returns a valid image with values of a profile, and so many columns and rows.
func (d dice) image(w, h int) api.Image {
	var rows [][]int
	for range h {
		rows = append(rows, d.profile(w))
	}
	return picture(rows...)
}

// P5.4
func TestViews(t *testing.T) {
	d := newDice(20)
	for range 1500 {
		m := d.image(d.from(2, api.MaxSide), d.from(1, api.MaxSide))
		threshold, noise := d.from(1, api.MaxValue), d.noise()
		l := must[[]api.View](t)(gauge.Views(m, threshold, noise))
		if !slices.Equal(l, views(m, threshold, noise)) {
			t.Fatal(m, threshold, noise, l)
		}
	}
}

// P5.4
func TestViewsErrors(t *testing.T) {
	for _, m := range badImages() {
		for _, noise := range []int{10, -1} {
			if l, e := gauge.Views(m, 60, noise); len(l) != 0 || e != api.ErrImage {
				t.Error(m, l, e)
			}
			fails[api.Camera](t, "Line", api.ErrImage)(gauge.Line(m, 60, noise))
		}
	}
	badArguments(func(m api.Image, threshold, noise int) {
		if l, e := gauge.Views(m, threshold, noise); len(l) != 0 || e != api.ErrArg {
			t.Error(m, threshold, noise, l, e)
		}
		fails[api.Camera](t, "Line", api.ErrArg)(gauge.Line(m, threshold, noise))
	})
}

func camera(f, c api.Span) api.Camera { return api.Camera{F: f, C: c} }

// P5.4
func TestLineByHand(t *testing.T) {
	bright, dark := []int{0, 120}, []int{0, 0}
	for i, x := range []struct {
		m     api.Image
		noise int
		want  api.Camera
		e     api.Errno
	}{
		{picture([]int{0, 120}, []int{0, 60}), 0, camera(only(8), only(8)), api.OK},
		{picture(bright, bright), 0, camera(only(0), only(8)), api.OK},
		{picture(bright, bright), 10, camera(wholes(-3, 3), wholes(6, 9)), api.OK},
		{picture(bright, dark, bright), 10, camera(span(frac(-3, 2), frac(3, 2)), wholes(6, 9)), api.OK},
		{picture(slices.Repeat([][]int{bright}, 12)...), 10, camera(span(frac(-3, 11), frac(3, 11)), wholes(6, 9)), api.OK},
		{picture(slices.Concat(slices.Repeat([][]int{bright}, 12), slices.Repeat([][]int{dark}, 4))...), 0, camera(only(0), only(8)), api.OK},
		{picture(slices.Repeat([][]int{bright}, 13)...), 0, api.Camera{}, api.ErrMany},
		{picture(slices.Concat(slices.Repeat([][]int{bright}, 12), [][]int{dark, dark, dark, {60, 0}})...), 0, api.Camera{}, api.ErrMany},
		{picture(bright, dark), 0, api.Camera{}, api.ErrLoose},
		{picture(dark, dark), 0, api.Camera{}, api.ErrLoose},
		{picture(bright), 10, api.Camera{}, api.ErrLoose},
		{picture([]int{0, 120}, []int{0, 60}, []int{0, 60}), 0, api.Camera{}, api.ErrNone},
	} {
		if c, e := gauge.Line(x.m, 60, x.noise); c != x.want || e != x.e {
			t.Error(i, c, e)
		}
	}
}

// P5.4
func TestLine(t *testing.T) {
	d := newDice(21)
	counts := make(map[api.Errno]int)
	for range 1500 {
		m := d.image(d.from(2, 5), d.from(1, api.MaxSide))
		threshold, noise := d.from(1, api.MaxValue), d.noise()
		want, e := lens.Calibrate(views(m, threshold, noise))
		if c, f := gauge.Line(m, threshold, noise); c != want || f != e {
			t.Fatal(m, threshold, noise, c, f, want, e)
		}
		counts[e]++
	}
	for _, e := range []api.Errno{api.OK, api.ErrNone, api.ErrMany, api.ErrLoose} {
		if counts[e] < 20 {
			t.Error("too few of", e, counts)
		}
	}
}

// row returns values of which the first bright place is num / den.
func (d dice) row(w, threshold, num, den int) []int {
	p := d.profile(w)
	i, part := num/den, num%den
	for j := range i {
		p[j] = d.Intn(threshold)
	}
	steep := d.from(1, min(threshold, api.MaxValue-threshold)/den)
	if p[i] = threshold - steep*part; part > 0 {
		p[i+1] = threshold + steep*(den-part)
	}
	return p
}

// disturbed returns an image that differs from m by at most the noise.
func (d dice) disturbed(m api.Image, noise int) api.Image {
	off := d.from(0, noise)
	for i, v := range m.Pix {
		m.Pix[i] = max(0, min(v+d.from(-off, off), api.MaxValue))
	}
	return m
}

// P5.8
func TestTrueLine(t *testing.T) {
	d := newDice(22)
	lines := 0
	for range 3000 {
		w, h, den := d.from(2, api.MaxSide), d.from(1, api.MaxViews), d.from(1, 7)
		first, last := d.from(0, (w-1)*den), d.from(0, (w-1)*den)
		step := 0
		if h > 1 {
			step = (last - first) / (h - 1)
		}
		threshold, noise := d.from(20, 230), d.noise()
		var rows [][]int
		for y := range h {
			rows = append(rows, d.row(w, threshold, first+step*y, den))
			x := must[api.Frac](t)(gauge.First(rows[y], threshold, 0))
			if x != reduced(first+step*y, den) {
				t.Fatal("no such line", rows[y], threshold, first, step, y, den)
			}
		}
		m := d.disturbed(picture(rows...), noise)
		c, e := gauge.Line(m, threshold, noise)
		if e == api.ErrLoose {
			continue
		}
		lines++
		if e != api.OK || !has(c.F, ratio(16*step, den)) || !has(c.C, ratio(16*first, den)) {
			t.Fatal(m, threshold, noise, c, e, first, step, den)
		}
	}
	if lines < 1000 {
		t.Error("too few lines", lines)
	}
}

// crossing is what Corner returned.
type crossing struct {
	x, y api.Span
	e    api.Errno
}

func corner(a, b api.Camera) crossing {
	x, y, e := gauge.Corner(a, b)
	return crossing{x, y, e}
}

// coordinate returns the coordinate that a gives of where it meets b.
func coordinate(a, b api.Camera, d api.Span) (api.Span, api.Errno) {
	part, e := each(a.F, b.C, times)
	if e != api.OK {
		return api.Span{}, e
	}
	sum, e := fit(plus(rat(a.C.Lo), rat(part.Lo)), plus(rat(a.C.Hi), rat(part.Hi)))
	if e != api.OK {
		return api.Span{}, e
	}
	return each(sum, d, divided)
}

// corners returns what Corner has to return for valid spans.
func corners(a, b api.Camera) crossing {
	both, e := each(a.F, b.F, times)
	if e != api.OK {
		return crossing{e: e}
	}
	d, e := fit(minus(ratio(1, 1), rat(both.Hi)), minus(ratio(1, 1), rat(both.Lo)))
	if e != api.OK {
		return crossing{e: e}
	}
	if has(d, new(big.Rat)) {
		return crossing{e: api.ErrNone}
	}
	x, e := coordinate(a, b, d)
	y, f := coordinate(b, a, d)
	if e != api.OK || f != api.OK {
		return crossing{e: max(e, f)}
	}
	return crossing{x: x, y: y}
}

// P5.5
func TestCornerByHand(t *testing.T) {
	for i, x := range []struct {
		a, b api.Camera
		want crossing
	}{
		{camera(only(0), only(3)), camera(only(0), only(5)), crossing{x: only(3), y: only(5)}},
		{camera(only(0), wholes(3, 4)), camera(only(0), wholes(5, 7)), crossing{x: wholes(3, 4), y: wholes(5, 7)}},
		// x = 3 + y / 2, y = 1 + x
		{camera(span(frac(1, 2), frac(1, 2)), only(3)), camera(only(1), only(1)), crossing{x: only(7), y: only(8)}},
		// x = 1 + 2 y, y = 4 + 3 x
		{camera(only(2), only(1)), camera(only(3), only(4)), crossing{x: span(frac(-9, 5), frac(-9, 5)), y: span(frac(-7, 5), frac(-7, 5))}},
		{camera(wholes(0, 1), wholes(0, 2)), camera(wholes(-1, 0), wholes(3, 4)), crossing{x: wholes(0, 6), y: span(frac(1, 2), whole(4))}},
		{camera(only(1), only(3)), camera(only(1), only(5)), crossing{e: api.ErrNone}},
		{camera(wholes(-1, 1), only(3)), camera(only(1), only(5)), crossing{e: api.ErrNone}},
		{camera(wholes(1, 2), only(3)), camera(only(1), only(5)), crossing{e: api.ErrNone}},
		{camera(wholes(0, 3), only(3)), camera(wholes(0, 2), only(5)), crossing{e: api.ErrNone}},
		{camera(only(most), only(0)), camera(only(0), only(0)), crossing{x: only(0), y: only(0)}},
		{camera(only(most), only(0)), camera(only(1), only(0)), crossing{x: only(0), y: only(0)}},
	} {
		if got := corner(x.a, x.b); got != x.want {
			t.Error(i, got, x.want)
		}
	}
}

// P5.5: each of the calls may have numbers that are too large.
func TestCornerTooLarge(t *testing.T) {
	half := span(frac(1, 2), frac(1, 2))
	for i, x := range []struct{ a, b api.Camera }{
		{camera(only(1<<31), only(0)), camera(only(1<<31), only(0))},
		{camera(only(-most), only(0)), camera(only(1), only(0))},
		{camera(only(1<<31), only(0)), camera(only(0), only(1<<31))},
		{camera(only(1), only(most)), camera(only(0), only(1))},
		{camera(half, only(most)), camera(only(1), only(0))},
		{camera(only(0), only(1<<31)), camera(only(1<<31), only(0))},
		{camera(only(0), only(1)), camera(only(1), only(most))},
	} {
		if got := corner(x.a, x.b); got != (crossing{e: api.ErrMany}) {
			t.Error(i, got)
		}
	}
	// Here x is most, which fits, and y is twice that.
	if got := corner(camera(half, only(0)), camera(only(1), only(most))); got != (crossing{e: api.ErrMany}) {
		t.Error(got)
	}
	// Lines that need not meet have no place that is too large.
	if got := corner(camera(only(1), only(most)), camera(only(1), only(most))); got != (crossing{e: api.ErrNone}) {
		t.Error(got)
	}
}

// P5.5: a span that is not valid comes before all other errors.
func TestCornerErrors(t *testing.T) {
	for _, s := range invalidSpans() {
		for _, n := range []int{0, 1, most} {
			good := only(n)
			for _, x := range [][4]api.Span{{s, good, good, good}, {good, s, good, good}, {good, good, s, good}, {good, good, good, s}, {s, s, s, s}} {
				if got := corner(camera(x[0], x[1]), camera(x[2], x[3])); got != (crossing{e: api.ErrBad}) {
					t.Error(x, got)
				}
			}
		}
	}
}

// P5.5: where all lines of the spans meet is in the spans of the corner.
func TestCorner(t *testing.T) {
	d := newDice(23)
	met := 0
	for range 3000 {
		limit := []int{2, 4, 30, 1 << 12, 1 << 20, 1 << 31, most}[d.Intn(7)]
		a, b := camera(d.span(limit), d.span(limit)), camera(d.span(limit), d.span(limit))
		got := corner(a, b)
		if got != corners(a, b) {
			t.Fatal(a, b, got, corners(a, b))
		}
		if got.e != api.OK {
			continue
		}
		met++
		for range 10 {
			f, g := points(a.F)[d.Intn(4)], points(b.F)[d.Intn(4)]
			c, h := points(a.C)[d.Intn(4)], points(b.C)[d.Intn(4)]
			x := divided(plus(c, times(f, h)), minus(ratio(1, 1), times(f, g)))
			if y := plus(h, times(g, x)); plus(c, times(f, y)).Cmp(x) != 0 || !has(got.x, x) || !has(got.y, y) {
				t.Fatal(a, b, got, x, y)
			}
		}
	}
	if met < 500 {
		t.Error("too few corners", met)
	}
}
