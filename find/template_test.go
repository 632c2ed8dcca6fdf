package find_test

import (
	"testing"

	"sightbench/api"
	"sightbench/find"
)

// isOffset fails the test unless a pixel of a template has that offset.
func isOffset(t *testing.T, p api.Template, turn, scale, i, j, x, y int) {
	t.Helper()
	if u, v, e := find.Offset(p, turn, scale, i, j); u != x || v != y || e != api.OK {
		t.Errorf("turn %d, scale %d, pixel %d %d of %d * %d: %d %d, %v instead of %d %d", turn, scale, i, j, p.W, p.H, u, v, e, x, y)
	}
}

// P7.1: the document's examples, and the other pixels of small templates.
func TestOffsetExamples(t *testing.T) {
	three, two := pattern(3, 1, 0), pattern(2, 1, 0)
	isOffset(t, three, 0, 2, 2, 0, 1, 0)
	isOffset(t, three, 3, 2, 2, 0, 0, 1)
	isOffset(t, three, 0, 4, 2, 0, 2, 0)
	isOffset(t, three, 1, 2, 2, 0, 1, 1)
	isOffset(t, three, 2, 2, 2, 0, 1, 1)
	isOffset(t, three, 6, 2, 2, 0, -1, 0)
	isOffset(t, three, 9, 2, 2, 0, 0, -1)
	isOffset(t, three, 0, 2, 0, 0, -1, 0)
	isOffset(t, two, 0, 2, 0, 0, 0, 0)
	isOffset(t, two, 0, 2, 1, 0, 1, 0)
	isOffset(t, two, 6, 2, 0, 0, 1, 0)
	isOffset(t, two, 6, 2, 1, 0, 0, 0)
	isOffset(t, pattern(8, 8, 0), 1, 4, 7, 7, 1, 10)
	isOffset(t, pattern(8, 8, 0), 7, 4, 7, 7, -1, -10)
}

// P7.1: all pixels, turns and scales of all sizes; the values of a template do not matter.
func TestOffset(t *testing.T) {
	d := newDice(1)
	for w := 1; w <= 8; w++ {
		for h := 1; h <= 8; h++ {
			p := d.template(w, h)
			for n := range 12 * 4 * w * h {
				turn, scale, i, j := n/(4*w*h), n/(w*h)%4+1, n%w, n/w%h
				x, y := offsetOf(p, turn, scale, i, j)
				isOffset(t, p, turn, scale, i, j, x, y)
			}
		}
	}
}

// P7.1: the pixel in the middle stays where it is, however it is turned.
func TestOffsetOfTheMiddle(t *testing.T) {
	for turn := range 12 {
		for scale := 1; scale <= 4; scale++ {
			for _, side := range []int{1, 3, 5, 7} {
				isOffset(t, pattern(side, side, 9), turn, scale, side/2, side/2, 0, 0)
			}
		}
	}
}

// P7.1, P1 (R1): each error, and with both of them the first one.
func TestOffsetErrors(t *testing.T) {
	check := func(p api.Template, turn, scale, i, j int, want api.Errno) {
		t.Helper()
		x, y, e := find.Offset(p, turn, scale, i, j)
		fails(t, "Offset", x == 0 && y == 0, e, want)
	}
	for _, p := range badTemplates() {
		check(p, 0, 2, 0, 0, api.ErrTemplate)
		check(p, -1, 0, -1, -1, api.ErrTemplate)
		check(p, 12, 5, 9, 9, api.ErrTemplate)
	}
	p := pattern(7, 4, 5)
	for _, n := range beyond(0, 11) {
		check(p, n, 2, 6, 3, api.ErrArg)
	}
	for _, n := range beyond(1, 4) {
		check(p, 0, n, 6, 3, api.ErrArg)
	}
	for _, n := range beyond(0, 6) {
		check(p, 3, 2, n, 3, api.ErrArg)
	}
	for _, n := range beyond(0, 3) {
		check(p, 3, 2, 6, n, api.ErrArg)
	}
}

// The references of these tests agree with what the document says of the directions.
func TestDirections(t *testing.T) {
	for n := range 12 {
		want := []complex128{5, 4 + 3i, 3 + 4i}[n%3]
		for range n / 3 {
			want *= 1i
		}
		if directions[n] != want {
			t.Error(n, directions[n], want)
		}
	}
}
