package find

import (
	"iter"

	"sightbench/api"
)

// free is the value of the pixels of a template where anything may be.
const free = -1

// unit is how long a direction is, times the halves in which scales, and places from the middle of a template, are counted.
const unit = 5 * 2 * 2

// directions has the directions up to a quarter of a turn.
var directions = [3]place{{5, 0}, {4, 3}, {3, 4}}

// Offset returns the offset of a pixel of a template.
func Offset(t api.Template, turn, scale, i, j int) (int, int, api.Errno) {
	if !isTemplate(t) {
		return 0, 0, api.ErrTemplate
	}
	if !isTurn(turn) || !isScale(scale) || !within(i, 0, t.W-1) || !within(j, 0, t.H-1) {
		return 0, 0, api.ErrArg
	}
	o := offset(t, turn, scale, place{i, j})
	return o.x, o.y, api.OK
}

// isTemplate reports whether a template is valid.
func isTemplate(t api.Template) bool {
	if !within(t.W, 1, api.MaxTemplate) || !within(t.H, 1, api.MaxTemplate) || len(t.Pix) != t.W*t.H {
		return false
	}
	most := free
	for _, v := range t.Pix {
		if !within(v, free, api.MaxValue) {
			return false
		}
		most = max(most, v)
	}
	return most != free
}

// isTurn reports whether n is a turn.
func isTurn(n int) bool { return within(n, 0, api.MaxTurns-1) }

// isScale reports whether n is a scale.
func isScale(n int) bool { return within(n, 1, api.MaxScales) }

// direction returns the direction of a turn.
func direction(turn int) place {
	d := directions[turn%len(directions)]
	for range turn / len(directions) {
		d = place{-d.y, d.x}
	}
	return d
}

// offset returns the offset of the pixel p of a template.
func offset(t api.Template, turn, scale int, p place) place {
	d := direction(turn)
	u, v := 2*p.x-(t.W-1), 2*p.y-(t.H-1)
	return place{rounded(scale * (d.x*u - d.y*v)), rounded(scale * (d.y*u + d.x*v))}
}

// rounded returns n units in whole numbers: the nearest one, and of two the greater one.
func rounded(n int) int {
	n += unit / 2
	if n < 0 {
		// A division rounds towards 0.
		n -= unit - 1
	}
	return n / unit
}

// offsets yields, for a turn and a scale, the offsets of the pixels that count, and their values.
func offsets(t api.Template, turn, scale int) iter.Seq2[place, int] {
	return func(yield func(place, int) bool) {
		for i, v := range t.Pix {
			if v != free && !yield(offset(t, turn, scale, place{i % t.W, i / t.W}), v) {
				return
			}
		}
	}
}
