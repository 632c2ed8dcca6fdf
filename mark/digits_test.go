package mark_test

import (
	"slices"
	"strings"
	"testing"

	"sightbench/api"
	"sightbench/mark"
)

// font has the rows of all digits, one after the other.
var font = [5]string{
	"111 010 111 111 101 111 111 111 111 111",
	"101 110 001 001 101 100 100 001 101 101",
	"101 010 111 111 111 111 111 010 111 111",
	"101 010 100 001 001 001 101 010 101 001",
	"111 111 111 111 001 111 111 010 111 111",
}

// glyph returns the modules of a digit.
func glyph(digit int) []uint8 {
	var list []uint8
	for _, row := range font {
		for _, c := range strings.Fields(row)[digit] {
			list = append(list, uint8(c-'0'))
		}
	}
	return list
}

// unlike returns the number of readable modules that are not those of a digit.
func unlike(modules []uint8, digit int) int {
	n := 0
	for i, kind := range glyph(digit) {
		if modules[i] == 1-kind {
			n++
		}
	}
	return n
}

// nearest returns the nearest digit and its margin.
func nearest(modules []uint8) (digit, margin int) {
	var distances []int
	for i := range 10 {
		distances = append(distances, unlike(modules, i))
	}
	digit = slices.Index(distances, slices.Min(distances))
	others := slices.Delete(slices.Clone(distances), digit, digit+1)
	return digit, slices.Min(others) - distances[digit]
}

// lineOf returns the modules of a line of digits.
func lineOf(text string) []uint8 {
	var list []uint8
	for _, row := range font {
		for i, c := range text {
			if i > 0 {
				list = append(list, 0)
			}
			for _, module := range strings.Fields(row)[c-'0'] {
				list = append(list, uint8(module-'0'))
			}
		}
	}
	return list
}

// digits returns a text of n digits.
func (d dice) digits(n int) string {
	var text []byte
	for range n {
		text = append(text, byte('0'+d.Intn(10)))
	}
	return string(text)
}

// isDigit fails the test unless modules have that nearest digit and margin.
func isDigit(t *testing.T, modules []uint8, digit, margin int) {
	t.Helper()
	if n, m, e := mark.Digit(modules); n != digit || m != margin || e != api.OK {
		t.Fatalf("Digit(%v): %d, %d, %v instead of %d, %d", modules, n, m, e, digit, margin)
	}
}

// P6.4
func TestGlyph(t *testing.T) {
	for digit := range 10 {
		if g, e := mark.Glyph(digit); e != api.OK || !slices.Equal(g, glyph(digit)) {
			t.Error(digit, g, e)
		}
	}
	if g, _ := mark.Glyph(7); !slices.Equal(g, []uint8{1, 1, 1, 0, 0, 1, 0, 1, 0, 0, 1, 0, 0, 1, 0}) {
		t.Error(g)
	}
	for _, digit := range []int{-1, 10, 11, least, over, 1 << 32} {
		g, e := mark.Glyph(digit)
		fails(t, "Glyph", len(g) == 0, e, api.ErrArg)
	}
}

// P6.4
func TestDigitExamples(t *testing.T) {
	eight := glyph(8)
	isDigit(t, eight, 8, 1)
	eight[7] = 0
	isDigit(t, eight, 0, 1)
	eight[7] = 2
	isDigit(t, eight, 0, 0)
	isDigit(t, slices.Repeat([]uint8{2}, 15), 0, 0)
}

// P6.4: all readable modules, and many with unreadable ones.
func TestDigit(t *testing.T) {
	modules := make([]uint8, 15)
	for n := range 1 << 15 {
		for i := range modules {
			modules[i] = uint8(n >> i & 1)
		}
		digit, margin := nearest(modules)
		isDigit(t, modules, digit, margin)
	}
	d := newDice(50)
	for range 20000 {
		for i := range modules {
			modules[i] = uint8(d.Intn(3))
		}
		digit, margin := nearest(modules)
		isDigit(t, modules, digit, margin)
	}
}

// P6.4
func TestDigitErrors(t *testing.T) {
	check := func(modules []uint8) {
		t.Helper()
		digit, margin, e := mark.Digit(modules)
		fails(t, "Digit", digit == 0 && margin == 0, e, api.ErrArg)
	}
	for _, n := range []int{0, 1, 14, 16, 30, 1000} {
		check(make([]uint8, n))
		check(slices.Repeat([]uint8{3}, n))
	}
	check(nil)
	for i := range 15 {
		for _, kind := range []uint8{3, 4, 128, 255} {
			modules := glyph(8)
			modules[i] = kind
			check(modules)
		}
	}
}

// P6.9: if at most so many modules are wrong as the margin is above, the digit is the one that was printed.
func TestMargin(t *testing.T) {
	d := newDice(51)
	sure := 0
	for range 50000 {
		digit, wrong := d.Intn(10), d.Intn(5)
		modules := glyph(digit)
		for i, p := range d.some(15, wrong+d.Intn(4)) {
			modules[p] = 1 - modules[p]
			if i >= wrong {
				modules[p] = 2
			}
		}
		got, margin, e := mark.Digit(modules)
		if e != api.OK || margin > wrong && got != digit {
			t.Fatal(modules, digit, wrong, got, margin, e)
		}
		if margin > wrong && wrong > 0 {
			sure++
		}
	}
	if sure < 1000 {
		t.Error("too few with a margin:", sure)
	}
}

// printed returns the image of a line.
func printed(t *testing.T, text string, s, ink, paper int) api.Image {
	t.Helper()
	m, e := mark.Print(text, s, ink, paper)
	if e != api.OK {
		t.Fatal(text, s, ink, paper, e)
	}
	return m
}

// P6.5
func TestPrint(t *testing.T) {
	m := printed(t, "17", 1, 3, 9)
	if m.W != 7 || m.H != 5 || !slices.Equal(m.Pix[:14], []int{9, 3, 9, 9, 3, 3, 3, 3, 3, 9, 9, 9, 9, 3}) {
		t.Error(m)
	}
	d := newDice(52)
	for range 500 {
		n, s, ink := d.from(1, 4), d.from(1, 2), d.from(0, 254)
		if n > 2 {
			s = 1
		}
		text, paper := d.digits(n), d.from(ink+1, 255)
		want := picture(lineOf(text), 4*n-1, s, [3]int{paper, ink})
		if m := printed(t, text, s, ink, paper); !equal(m, want) {
			t.Fatal(text, s, m)
		}
	}
	printed(t, "0123", 1, 0, 255)
	printed(t, "98", 2, 254, 255)
	printed(t, "6", 2, 0, 1)
}

// P6.5, P1 (R1): each error, and with several of them the first one.
func TestPrintErrors(t *testing.T) {
	check := func(text string, s, ink, paper int, want api.Errno) {
		t.Helper()
		m, e := mark.Print(text, s, ink, paper)
		fails(t, "Print "+text, noImage(m), e, want)
	}
	for _, text := range []string{"", "12345", "00000000", " ", "1 ", "-1", "+1", "1.", "a", "12a", "/", ":", "1/2", "1:2", "\x00", "\x80", "1\xff", "\u0661", "\uff11", "\u00b2", "0x1", strings.Repeat("1", 1000)} {
		check(text, 1, 10, 200, api.ErrText)
		check(text, 3, 200, 10, api.ErrText)
	}
	for _, s := range badSizes() {
		check("1", s, 10, 200, api.ErrArg)
		check("1234", s, 10, 200, api.ErrArg)
	}
	for _, c := range badContrasts() {
		check("1", 1, c.Low, c.High, api.ErrArg)
		check("1234", 2, c.Low, c.High, api.ErrArg)
	}
	check("123", 2, 10, 200, api.ErrSize)
	check("1234", 2, 10, 200, api.ErrSize)
}

// isLine fails the test unless an image is read like that.
func isLine(t *testing.T, m api.Image, s int, c api.Contrast, need int, want string) {
	t.Helper()
	if text, e := mark.ReadLine(m, s, c, need); text != want || e != api.OK {
		t.Fatalf("ReadLine(%v, %d, %v, %d): %q, %v instead of %q", m, s, c, need, text, e, want)
	}
}

// P6.5
func TestReadLineExample(t *testing.T) {
	c := api.Contrast{Low: 50, High: 100}
	for s := 1; s <= 2; s++ {
		m := printed(t, "17", s, 10, 200)
		for need, want := range map[int]string{0: "17", 1: "17", 5: "17", 7: "1?", 8: "??", 15: "??"} {
			isLine(t, m, s, c, need, want)
		}
	}
	// Where nothing can be read, each digit is as near as the others.
	isLine(t, filled(11, 5, 75), 1, c, 0, "000")
	isLine(t, filled(11, 5, 75), 1, c, 1, "???")
}

// P6.5: lines with all kinds of faults, also between the digits.
func TestReadLine(t *testing.T) {
	d := newDice(53)
	for range 5000 {
		n, s, c := d.from(1, 4), d.from(1, 2), d.contrast()
		if n > 2 {
			s = 1
		}
		m := picture(lineOf(d.digits(n)), 4*n-1, s, [3]int{c.High, c.Low})
		for range d.Intn(len(m.Pix)) {
			m.Pix[d.Intn(len(m.Pix))] = max(0, min(255, d.from(c.Low-9, c.High+9)))
		}
		need := d.from(0, 6)
		modules := modulesOf(m, s, c)
		want := ""
		for i := range n {
			var one []uint8
			for y := range 5 {
				start := y*(4*n-1) + 4*i
				one = append(one, modules[start:start+3]...)
			}
			digit, margin := nearest(one)
			if margin < need {
				want += "?"
			} else {
				want += string(rune('0' + digit))
			}
		}
		isLine(t, m, s, c, need, want)
	}
}

// P6.9: a line is read as it was printed; with a greater need some characters become question marks, and nothing else changes.
func TestReadLinePrinted(t *testing.T) {
	d := newDice(54)
	marks := 0
	for range 2000 {
		n, s, c := d.from(1, 4), d.from(1, 2), d.contrast()
		if n > 2 {
			s = 1
		}
		text := d.digits(n)
		ink, paper := d.between(c)
		m := printed(t, text, s, ink, paper)
		isLine(t, m, s, c, 0, text)
		isLine(t, m, s, c, 1, text)
		last := text
		for need := 2; need <= 15; need++ {
			got, e := mark.ReadLine(m, s, c, need)
			if e != api.OK || len(got) != n {
				t.Fatal(text, need, got, e)
			}
			for i := range n {
				if got[i] != last[i] && got[i] != '?' {
					t.Fatal(text, need, got, last)
				}
				if got[i] != last[i] {
					marks++
				}
			}
			last = got
		}
	}
	if marks < 1000 {
		t.Error(marks)
	}
}

// P6.5, P1 (R1): each error, and with several of them the first one.
func TestReadLineErrors(t *testing.T) {
	good := api.Contrast{Low: 50, High: 100}
	check := func(m api.Image, s int, c api.Contrast, need int, want api.Errno) {
		t.Helper()
		text, e := mark.ReadLine(m, s, c, need)
		fails(t, "ReadLine", text == "", e, want)
	}
	for _, m := range badImages() {
		check(m, 1, good, 1, api.ErrImage)
		check(m, 0, api.Contrast{}, -1, api.ErrImage)
	}
	for _, m := range []api.Image{filled(3, 5, 9), filled(9, 9, 9)} {
		for _, s := range badSizes() {
			check(m, s, good, 1, api.ErrArg)
		}
		for _, c := range badContrasts() {
			check(m, 1, c, 1, api.ErrArg)
			check(m, 2, c, 16, api.ErrArg)
		}
	}
	for _, need := range []int{-1, 16, 17, least, over} {
		check(filled(3, 5, 9), 1, good, need, api.ErrArg)
		check(filled(9, 9, 9), 1, good, need, api.ErrArg)
		check(filled(9, 9, 9), 2, good, need, api.ErrSize)
	}
}

// P6.5: the sizes of images that have lines.
func TestReadLineSizes(t *testing.T) {
	good := api.Contrast{Low: 50, High: 100}
	for w := 1; w <= 16; w++ {
		for h := 1; h <= 16; h++ {
			for s := 1; s <= 2; s++ {
				text, e := mark.ReadLine(filled(w, h, 255), s, good, 0)
				n := (w/s + 1) / 4
				if h == 5*s && slices.Contains([]int{3 * s, 7 * s, 11 * s, 15 * s}, w) {
					if e != api.OK || len(text) != n {
						t.Error(w, h, s, text, e)
					}
				} else {
					fails(t, "ReadLine", text == "", e, api.ErrSize)
				}
			}
		}
	}
}
