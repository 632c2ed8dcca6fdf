// Package exact is layer 1: fractions and enclosures; see shared/doc/01-exact.md.
package exact

import "sightbench/api"

// Make returns the fraction num / den.
func Make(num, den int) (api.Frac, api.Errno) {
	if den == 0 {
		return api.Frac{}, api.ErrZero
	}
	common := divisor(size(num), size(den))
	top, bottom := wide{lo: size(num) / common}, wide{lo: size(den) / common}
	if (num < 0) != (den < 0) {
		top = top.opposite()
	}
	return fraction(top, bottom)
}

// Check returns ErrBad unless a fraction is valid.
func Check(a api.Frac) api.Errno {
	if a.Den < 1 || a.Den > api.MaxPart || a.Num < -api.MaxPart || a.Num > api.MaxPart {
		return api.ErrBad
	}
	if divisor(size(a.Num), size(a.Den)) != 1 {
		return api.ErrBad
	}
	return api.OK
}

// Compare returns -1, 0 or 1: whether a is less than b, equal, or greater.
func Compare(a, b api.Frac) (int, api.Errno) {
	if e := checkAll(a, b); e != api.OK {
		return 0, e
	}
	return order(a, b), api.OK
}

// Add returns the sum of two fractions.
func Add(a, b api.Frac) (api.Frac, api.Errno) {
	if e := checkAll(a, b); e != api.OK {
		return api.Frac{}, e
	}
	return combine(a, b, wide.plus)
}

// Sub returns the difference of two fractions.
func Sub(a, b api.Frac) (api.Frac, api.Errno) {
	if e := checkAll(a, b); e != api.OK {
		return api.Frac{}, e
	}
	return combine(a, b, wide.minus)
}

// Mul returns the product of two fractions.
func Mul(a, b api.Frac) (api.Frac, api.Errno) {
	if e := checkAll(a, b); e != api.OK {
		return api.Frac{}, e
	}
	return times(a, b)
}

// Div returns the quotient of two fractions.
func Div(a, b api.Frac) (api.Frac, api.Errno) {
	if e := checkAll(a, b); e != api.OK {
		return api.Frac{}, e
	}
	if b.Num == 0 {
		return api.Frac{}, api.ErrZero
	}
	return times(a, inverse(b))
}

// Floor returns the greatest whole number that is at most a.
func Floor(a api.Frac) (int, api.Errno) {
	if e := Check(a); e != api.OK {
		return 0, e
	}
	n := a.Num / a.Den
	if a.Num%a.Den < 0 {
		n--
	}
	return n, api.OK
}

// Ceil returns the least whole number that is at least a.
func Ceil(a api.Frac) (int, api.Errno) {
	if e := Check(a); e != api.OK {
		return 0, e
	}
	n := a.Num / a.Den
	if a.Num%a.Den > 0 {
		n++
	}
	return n, api.OK
}

// checkAll returns ErrBad unless all fractions are valid.
func checkAll(list ...api.Frac) api.Errno {
	for _, a := range list {
		if e := Check(a); e != api.OK {
			return e
		}
	}
	return api.OK
}

// fraction returns the fraction of two numbers that no number above 1 divides both; the lower one is above 0.
func fraction(top, bottom wide) (api.Frac, api.Errno) {
	num, ok := top.part()
	den, fine := bottom.part()
	if !ok || !fine {
		return api.Frac{}, api.ErrMany
	}
	return api.Frac{Num: num, Den: den}, api.OK
}

// order compares two valid fractions.
func order(a, b api.Frac) int {
	return product(a.Num, b.Den).minus(product(b.Num, a.Den)).sign()
}

// combine returns the sum or the difference of two valid fractions, as how says for their upper numbers over the least common denominator. What they make can be reduced only by what divides both denominators.
func combine(a, b api.Frac, how func(x, y wide) wide) (api.Frac, api.Errno) {
	common := divisor(size(a.Den), size(b.Den))
	left, right := a.Den/int(common), b.Den/int(common)
	top := how(product(a.Num, right), product(b.Num, left))
	_, rest := top.divide(common)
	shared := divisor(common, rest)
	top, _ = top.divide(shared)
	return fraction(top, product(left, b.Den/int(shared)))
}

// times returns the product of two valid fractions. Reduced crosswise first, it can be reduced no further.
func times(a, b api.Frac) (api.Frac, api.Errno) {
	left := int(divisor(size(a.Num), size(b.Den)))
	right := int(divisor(size(b.Num), size(a.Den)))
	return fraction(product(a.Num/left, b.Num/right), product(a.Den/right, b.Den/left))
}

// inverse returns 1 divided by a valid fraction other than 0.
func inverse(a api.Frac) api.Frac {
	if a.Num < 0 {
		return api.Frac{Num: -a.Den, Den: -a.Num}
	}
	return api.Frac{Num: a.Den, Den: a.Num}
}
