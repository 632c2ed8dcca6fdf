package mark_test

import (
	"slices"
	"testing"

	"sightbench/api"
	"sightbench/mark"
)

// roomy returns a copy of a list with more memory behind its end, and all of that memory.
func roomy[T any](list []T, filling T) (short, long []T) {
	long = append(slices.Clone(list), slices.Repeat([]T{filling}, 80)...)
	return long[:len(list)], long
}

// spoil writes into all memory of a list, also behind its end.
func spoil[T any](list []T, filling T) {
	list = list[:cap(list)]
	for i := range list {
		list[i] = filling
	}
}

// P1 (R3): messages and words are only read, results share no memory with them, and nothing is kept from one call to the next.
func TestMemoryOfWords(t *testing.T) {
	d := newDice(60)
	for range 300 {
		own := d.symbols(d.from(1, 13))
		message, allMessage := roomy(own, 7)
		word := encode(t, message)
		drawn := draw(t, message, 2, 10, 200)
		spoil(word, 99)
		spoil(drawn.Pix, -99)
		if !slices.Equal(encode(t, message), wordOf(own)) || !equal(draw(t, message, 2, 10, 200), picture(markOf(wordOf(own)), 8, 2, [3]int{200, 10})) {
			t.Fatal("kept or shared", own)
		}
		got, allGot := roomy(wordOf(own), 7)
		erased, allErased := roomy(make([]bool, 15), true)
		k := len(own)
		for _, p := range d.some(15, d.from(0, 15-k)) {
			erased[p] = true
		}
		before, beforeErased := slices.Clone(allGot), slices.Clone(allErased)
		for range 2 {
			m, n, e := mark.Decode(got, erased, k)
			if !slices.Equal(m, own) || n != 0 || e != api.OK {
				t.Fatal("kept", own, m, n, e)
			}
			spoil(m, 99)
		}
		if !slices.Equal(allGot, before) || !slices.Equal(allErased, beforeErased) || !slices.Equal(allMessage[len(own):], slices.Repeat([]uint8{7}, 80)) || !slices.Equal(message, own) {
			t.Fatal("changed", own)
		}
	}
}

// P1 (R3)
func TestMemoryOfImages(t *testing.T) {
	d := newDice(61)
	for range 200 {
		message, s, c := d.symbols(d.from(1, 13)), d.from(1, 2), d.contrast()
		ink, paper := d.between(c)
		m := turned(draw(t, message, s, ink, paper), d.Intn(4))
		pix, all := roomy(m.Pix, 77)
		m.Pix = pix
		before := slices.Clone(all)
		modules, e := mark.Modules(m, s, c)
		want := slices.Clone(modules)
		r, f := mark.Read(m, c, len(message))
		if e != api.OK || f != api.OK || !slices.Equal(r.Message, message) {
			t.Fatal(e, f, r)
		}
		spoil(modules, 99)
		spoil(r.Message, 99)
		again, _ := mark.Modules(m, s, c)
		reading, _ := mark.Read(m, c, len(message))
		if !slices.Equal(again, want) || !slices.Equal(reading.Message, message) || !slices.Equal(all, before) {
			t.Fatal("changed, kept or shared", m)
		}
	}
}

// P1 (R3)
func TestMemoryOfDigits(t *testing.T) {
	for digit := range 10 {
		g, _ := mark.Glyph(digit)
		spoil(g, 99)
		if g, _ = mark.Glyph(digit); !slices.Equal(g, glyph(digit)) {
			t.Fatal("kept", digit, g)
		}
		modules, all := roomy(g, 2)
		before := slices.Clone(all)
		isDigit(t, modules, digit, margins()[digit])
		text := string(rune('0' + digit))
		m := printed(t, text, 2, 10, 200)
		spoil(m.Pix, -99)
		m = printed(t, text, 2, 10, 200)
		pix, allPix := roomy(m.Pix, 77)
		m.Pix = pix
		beforePix := slices.Clone(allPix)
		for range 2 {
			isLine(t, m, 2, api.Contrast{Low: 10, High: 200}, 1, text)
		}
		if !slices.Equal(all, before) || !slices.Equal(allPix, beforePix) {
			t.Fatal("changed", digit)
		}
	}
}

// margins returns the margins of the digits as they are printed.
func margins() []int {
	var list []int
	for digit := range 10 {
		_, margin := nearest(glyph(digit))
		list = append(list, margin)
	}
	return list
}

// P1 (R7): no call panics, whatever the arguments are.
func TestExtremes(t *testing.T) {
	d := newDice(62)
	numbers := []int{least, least + 1, -1 << 32, -256, -2, -1, 0, 1, 2, 3, 7, 8, 13, 14, 15, 16, 17, 255, 256, 1 << 32, over - 1, over}
	n := func() int { return numbers[d.Intn(len(numbers))] }
	small := func() int { return []int{1, 1, 2, n()}[d.Intn(4)] }
	contrast := func() api.Contrast {
		if d.Intn(2) == 0 {
			return d.contrast()
		}
		return api.Contrast{Low: n(), High: n()}
	}
	list := func() []uint8 {
		l := make([]uint8, []int{0, 1, 13, 14, 15, 15, 15, 16}[d.Intn(8)])
		most := []int{2, 16, 17, 256}[d.Intn(4)]
		for i := range l {
			l[i] = uint8(d.Intn(most))
		}
		return l
	}
	images := append(badImages(), filled(8, 8, 0), filled(16, 16, 100), filled(7, 5, 20), filled(14, 10, 200), filled(1, 1, 0))
	for range 20000 {
		m := images[d.Intn(len(images))]
		mark.Mul(uint8(n()), uint8(n()))
		mark.Inverse(uint8(n()))
		mark.Encode(list())
		erased := make([]bool, []int{15, 15, 15, 0, 14, 16}[d.Intn(6)])
		for i := range erased {
			erased[i] = d.Intn(3) == 0
		}
		mark.Decode(list(), erased, d.from(0, 14))
		mark.Decode(list(), erased, n())
		mark.Draw(list(), small(), n(), n())
		mark.Modules(m, small(), contrast())
		mark.Read(m, contrast(), n())
		mark.Glyph(n())
		mark.Digit(list())
		mark.Print([]string{"", "1", "12", "0000", "12345", "\xff", "\u0661"}[d.Intn(7)], small(), n(), n())
		mark.ReadLine(m, small(), contrast(), n())
	}
}
