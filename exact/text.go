package exact

import (
	"strconv"
	"strings"

	"sightbench/api"
)

// Text returns the text of a fraction.
func Text(a api.Frac) (string, api.Errno) {
	if e := Check(a); e != api.OK {
		return "", e
	}
	return text(a), api.OK
}

// Parse returns the fraction of a text.
func Parse(s string) (api.Frac, api.Errno) {
	upper, lower, divided := strings.Cut(s, "/")
	if !divided {
		lower = "1"
	}
	num, e := strconv.Atoi(upper)
	if e != nil {
		return api.Frac{}, api.ErrForm
	}
	den, e := strconv.Atoi(lower)
	if e != nil {
		return api.Frac{}, api.ErrForm
	}
	a := api.Frac{Num: num, Den: den}
	// Atoi also takes signs and zeros in front that a text does not have.
	if Check(a) != api.OK || text(a) != s {
		return api.Frac{}, api.ErrForm
	}
	return a, api.OK
}

// text returns the text of a valid fraction.
func text(a api.Frac) string {
	if a.Den == 1 {
		return strconv.Itoa(a.Num)
	}
	return strconv.Itoa(a.Num) + "/" + strconv.Itoa(a.Den)
}
