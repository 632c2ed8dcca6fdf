package exact

import (
	"math/bits"

	"sightbench/api"
)

// wide is a whole number of 128 bits in two's complement: a product of two parts needs 124 bits and a sign, a sum of two such products one bit more.
type wide struct{ hi, lo uint64 }

// product returns x * y.
func product(x, y int) wide {
	hi, lo := bits.Mul64(size(x), size(y))
	w := wide{hi, lo}
	if (x < 0) != (y < 0) {
		return w.opposite()
	}
	return w
}

func (w wide) plus(v wide) wide {
	lo, carry := bits.Add64(w.lo, v.lo, 0)
	hi, _ := bits.Add64(w.hi, v.hi, carry)
	return wide{hi, lo}
}

func (w wide) minus(v wide) wide {
	lo, borrow := bits.Sub64(w.lo, v.lo, 0)
	hi, _ := bits.Sub64(w.hi, v.hi, borrow)
	return wide{hi, lo}
}

func (w wide) opposite() wide { return wide{}.minus(w) }

// sign returns -1, 0 or 1.
func (w wide) sign() int {
	switch {
	case w == wide{}:
		return 0
	case w.hi>>63 == 1:
		return -1
	}
	return 1
}

// divide returns the quotient by d, a number above 0, without its fraction, and the size of the remainder.
func (w wide) divide(d uint64) (wide, uint64) {
	if w.sign() < 0 {
		q, rest := w.opposite().divide(d)
		return q.opposite(), rest
	}
	// The remainder of the upper word is less than d, so that Div64 has a result.
	hi, rest := w.hi/d, w.hi%d
	lo, rest := bits.Div64(rest, w.lo, d)
	return wide{hi, lo}, rest
}

// part returns w as a part of a fraction, and whether it is one.
func (w wide) part() (int, bool) {
	if w.sign() < 0 {
		n, ok := w.opposite().part()
		return -n, ok
	}
	if w.hi != 0 || w.lo > api.MaxPart {
		return 0, false
	}
	return int(w.lo), true
}

// size returns the absolute value of n, also of the least number, which has none among the numbers of type int.
func size(n int) uint64 {
	if n < 0 {
		return -uint64(n)
	}
	return uint64(n)
}

// divisor returns the greatest number that divides both x and y; one of them is not 0.
func divisor(x, y uint64) uint64 {
	for y != 0 {
		x, y = y, x%y
	}
	return x
}
