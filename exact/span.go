package exact

import "sightbench/api"

// CheckSpan returns ErrBad unless an enclosure is valid.
func CheckSpan(s api.Span) api.Errno {
	if e := checkAll(s.Lo, s.Hi); e != api.OK {
		return e
	}
	if order(s.Lo, s.Hi) > 0 {
		return api.ErrBad
	}
	return api.OK
}

// In reports whether an enclosure contains a number.
func In(s api.Span, x api.Frac) (bool, api.Errno) {
	if e := checkSpans(s); e != api.OK {
		return false, e
	}
	if e := Check(x); e != api.OK {
		return false, e
	}
	return contains(s, x), api.OK
}

// AddSpans returns the enclosure of the sums.
func AddSpans(a, b api.Span) (api.Span, api.Errno) {
	if e := checkSpans(a, b); e != api.OK {
		return api.Span{}, e
	}
	return between(a.Lo, b.Lo, a.Hi, b.Hi, wide.plus)
}

// SubSpans returns the enclosure of the differences.
func SubSpans(a, b api.Span) (api.Span, api.Errno) {
	if e := checkSpans(a, b); e != api.OK {
		return api.Span{}, e
	}
	return between(a.Lo, b.Hi, a.Hi, b.Lo, wide.minus)
}

// MulSpans returns the enclosure of the products.
func MulSpans(a, b api.Span) (api.Span, api.Errno) {
	if e := checkSpans(a, b); e != api.OK {
		return api.Span{}, e
	}
	return products(a, b)
}

// DivSpans returns the enclosure of the quotients.
func DivSpans(a, b api.Span) (api.Span, api.Errno) {
	if e := checkSpans(a, b); e != api.OK {
		return api.Span{}, e
	}
	if contains(b, api.Frac{Den: 1}) {
		return api.Span{}, api.ErrZero
	}
	// Both ends have one sign, so that the greater end has the lesser inverse.
	return products(a, api.Span{Lo: inverse(b.Hi), Hi: inverse(b.Lo)})
}

// Meet returns the enclosure of the numbers that are in both.
func Meet(a, b api.Span) (api.Span, api.Errno) {
	if e := checkSpans(a, b); e != api.OK {
		return api.Span{}, e
	}
	lo, hi := hull(a.Lo, b.Lo).Hi, hull(a.Hi, b.Hi).Lo
	if order(lo, hi) > 0 {
		return api.Span{}, api.ErrNone
	}
	return api.Span{Lo: lo, Hi: hi}, api.OK
}

// Join returns the enclosure from the lesser Lo to the greater Hi.
func Join(a, b api.Span) (api.Span, api.Errno) {
	if e := checkSpans(a, b); e != api.OK {
		return api.Span{}, e
	}
	return hull(a.Lo, a.Hi, b.Lo, b.Hi), api.OK
}

// checkSpans returns ErrBad unless all enclosures are valid.
func checkSpans(list ...api.Span) api.Errno {
	for _, s := range list {
		if e := CheckSpan(s); e != api.OK {
			return e
		}
	}
	return api.OK
}

// contains reports whether a valid enclosure contains a valid fraction.
func contains(s api.Span, x api.Frac) bool {
	return order(s.Lo, x) <= 0 && order(x, s.Hi) <= 0
}

// hull returns the enclosure from the least to the greatest of some valid fractions.
func hull(first api.Frac, others ...api.Frac) api.Span {
	s := api.Span{Lo: first, Hi: first}
	for _, x := range others {
		if order(x, s.Lo) < 0 {
			s.Lo = x
		}
		if order(x, s.Hi) > 0 {
			s.Hi = x
		}
	}
	return s
}

// between returns the enclosure from the sum or difference of a and b to that of c and d.
func between(a, b, c, d api.Frac, how func(x, y wide) wide) (api.Span, api.Errno) {
	lo, e := combine(a, b, how)
	if e != api.OK {
		return api.Span{}, e
	}
	hi, e := combine(c, d, how)
	if e != api.OK {
		return api.Span{}, e
	}
	return api.Span{Lo: lo, Hi: hi}, api.OK
}

// products returns the enclosure of the four products of the ends of two valid enclosures.
func products(a, b api.Span) (api.Span, api.Errno) {
	var list [4]api.Frac
	for i, ends := range [4][2]api.Frac{{a.Lo, b.Lo}, {a.Lo, b.Hi}, {a.Hi, b.Lo}, {a.Hi, b.Hi}} {
		x, e := times(ends[0], ends[1])
		if e != api.OK {
			return api.Span{}, e
		}
		list[i] = x
	}
	return hull(list[0], list[1:]...), api.OK
}
