package mark

import "sightbench/api"

// Rows and columns of a digit, its modules, and how many columns it is from one digit to the next.
const (
	digitRows    = 5
	digitColumns = 3
	digitModules = digitRows * digitColumns
	pitch        = digitColumns + 1
)

// glyphs has the digits, of each the first module as the highest bit.
var glyphs = [10]uint16{
	0b111_101_101_101_111,
	0b010_110_010_010_111,
	0b111_001_111_100_111,
	0b111_001_111_001_111,
	0b101_101_111_001_001,
	0b111_100_111_001_111,
	0b111_100_111_101_111,
	0b111_001_010_010_010,
	0b111_101_111_101_111,
	0b111_101_111_001_111,
}

// glyphModule returns the module i of a digit.
func glyphModule(digit, i int) uint8 {
	return uint8(glyphs[digit] >> (digitModules - 1 - i) & 1)
}

// Glyph returns the modules of a digit.
func Glyph(digit int) ([]uint8, api.Errno) {
	if !within(digit, 0, len(glyphs)-1) {
		return nil, api.ErrArg
	}
	list := make([]uint8, digitModules)
	for i := range list {
		list[i] = glyphModule(digit, i)
	}
	return list, api.OK
}

// Digit returns the nearest digit for 15 modules, and its margin.
func Digit(modules []uint8) (int, int, api.Errno) {
	if !areDigitModules(modules) {
		return 0, 0, api.ErrArg
	}
	// Every digit is nearer than the distances to begin with.
	nearest, least, next := 0, digitModules+1, digitModules+1
	for digit := range len(glyphs) {
		d := distance(digit, modules)
		if d < least {
			nearest, least, next = digit, d, least
		} else {
			next = min(next, d)
		}
	}
	return nearest, next - least, api.OK
}

// areDigitModules reports whether a list may be the modules of a digit, readable or not.
func areDigitModules(list []uint8) bool {
	for _, kind := range list {
		if kind > unreadable {
			return false
		}
	}
	return len(list) == digitModules
}

// distance returns the distance of a digit from some modules.
func distance(digit int, list []uint8) int {
	n := 0
	for i, kind := range list {
		if kind != unreadable && kind != glyphModule(digit, i) {
			n++
		}
	}
	return n
}

// Print returns the image of a line of digits.
func Print(text string, s, ink, paper int) (api.Image, api.Errno) {
	if !isNumber(text) {
		return api.Image{}, api.ErrText
	}
	c := colours{ink, paper}
	if !isSize(s) || !c.areValid() {
		return api.Image{}, api.ErrArg
	}
	columns := lineColumns(len(text))
	if columns*s > api.MaxSide {
		return api.Image{}, api.ErrSize
	}
	list := make([]uint8, digitRows*columns)
	for i := range text {
		for j := range digitModules {
			list[linePlace(i, j, columns)] = glyphModule(int(text[i]-'0'), j)
		}
	}
	return c.paint(list, columns, s), api.OK
}

// ReadLine returns what is read from a line of digits.
func ReadLine(m api.Image, s int, c api.Contrast, need int) (string, api.Errno) {
	list, e := Modules(m, s, c)
	if e != api.OK {
		return "", e
	}
	if !within(need, 0, digitModules) {
		return "", api.ErrArg
	}
	columns := m.W / s
	n := (columns + 1) / pitch // at most MaxDigits, as an image has no more columns than those take
	if columns != lineColumns(n) || m.H != digitRows*s {
		return "", api.ErrSize
	}
	var text []byte
	for i := range n {
		var one [digitModules]uint8
		for j := range one {
			one[j] = list[linePlace(i, j, columns)]
		}
		text = append(text, character(one[:], need))
	}
	return string(text), api.OK
}

// character returns the nearest digit for some modules, or a question mark if its margin is less than needed.
func character(list []uint8, need int) byte {
	digit, margin, _ := Digit(list)
	if margin < need {
		return '?'
	}
	return '0' + byte(digit)
}

// isNumber reports whether a text is one that can be printed.
func isNumber(text string) bool {
	for _, r := range text {
		if r < '0' || r > '9' {
			return false
		}
	}
	return within(len(text), 1, api.MaxDigits)
}

// lineColumns returns the columns of a line of n digits.
func lineColumns(n int) int { return n*pitch - 1 }

// linePlace returns the index of the module j of the digit i among those of a line with so many columns.
func linePlace(i, j, columns int) int {
	return j/digitColumns*columns + i*pitch + j%digitColumns
}
