package mark_test

import (
	"slices"
	"testing"

	"sightbench/api"
	"sightbench/image"
	"sightbench/mark"
)

// draw returns the image of a mark.
func draw(t *testing.T, message []uint8, s, ink, paper int) api.Image {
	t.Helper()
	m, e := mark.Draw(message, s, ink, paper)
	if e != api.OK {
		t.Fatal(message, s, ink, paper, e)
	}
	return m
}

// isRead fails the test unless an image is read like that.
func isRead(t *testing.T, m api.Image, c api.Contrast, k int, want api.Reading) {
	t.Helper()
	if r, e := mark.Read(m, c, k); e != api.OK || !sameReading(r, want) {
		t.Fatalf("Read(%v, %v, %d): %v, %v instead of %v", m, c, k, r, e, want)
	}
}

// unread fails the test unless an image leads to that error.
func unread(t *testing.T, m api.Image, c api.Contrast, k int, want api.Errno) {
	t.Helper()
	r, e := mark.Read(m, c, k)
	fails(t, "Read", noReading(r), e, want)
}

// P6.2
func TestDraw(t *testing.T) {
	m := draw(t, []uint8{0}, 1, 10, 200)
	want := filled(8, 8, 200)
	want.Pix[0], want.Pix[56], want.Pix[63] = 10, 10, 10
	if !equal(m, want) {
		t.Error(m)
	}
	// The bits of 1, of which the first word has fifteen: the last module of each four.
	m = draw(t, []uint8{1}, 1, 0, 1)
	if !slices.Equal(m.Pix[:16], []int{0, 1, 1, 1, 0, 1, 1, 1, 1, 0, 1, 1, 1, 0, 1, 1}) {
		t.Error(m)
	}
	d := newDice(30)
	for range 500 {
		message, s, ink := d.symbols(d.from(1, 13)), d.from(1, 2), d.from(0, 254)
		paper := d.from(ink+1, 255)
		want := picture(markOf(wordOf(message)), 8, s, [3]int{paper, ink})
		if m := draw(t, message, s, ink, paper); !equal(m, want) {
			t.Fatal(message, s, m)
		}
	}
	draw(t, make([]uint8, 13), 2, 0, 255)
	draw(t, []uint8{15}, 1, 254, 255)
}

// P6.2
func TestDrawErrors(t *testing.T) {
	check := func(message []uint8, s, ink, paper int) {
		t.Helper()
		m, e := mark.Draw(message, s, ink, paper)
		fails(t, "Draw", noImage(m), e, api.ErrArg)
	}
	for _, message := range badMessages() {
		check(message, 1, 10, 200)
	}
	for _, s := range badSizes() {
		check([]uint8{1}, s, 10, 200)
	}
	for _, c := range badContrasts() {
		check([]uint8{1}, 1, c.Low, c.High)
	}
	check(nil, 0, 5, 5)
}

// P6.3
func TestReadExample(t *testing.T) {
	m := draw(t, []uint8{0}, 1, 10, 200)
	once, _ := image.Turn(m)
	c := api.Contrast{Low: 50, High: 100}
	isRead(t, once, c, 1, api.Reading{Message: []uint8{0}, Turns: 3})
	isRead(t, m, c, 1, api.Reading{Message: []uint8{0}})
	unread(t, filled(8, 8, 0), c, 1, api.ErrMark)
	unread(t, filled(8, 8, 255), c, 1, api.ErrMark)
	unread(t, filled(8, 8, 75), c, 1, api.ErrMark)
}

// P6.3: of several readings the one with the fewest errors and erased symbols counts, of several the one with the fewest turns.
func TestReadWithoutCorners(t *testing.T) {
	c := api.Contrast{Low: 50, High: 100}
	all := [3]int{200, 0, 75}
	for _, k := range []int{1, 2, 13} {
		// Without corners nothing tells how paper, or ink, is turned.
		modules := markOf(make([]uint8, 15))
		for _, i := range []int{0, 7, 56, 63} {
			modules[i] = 2
		}
		isRead(t, picture(modules, 8, 2, all), c, k, api.Reading{Message: make([]uint8, k)})
		// A corner of paper that is all that can be read tells it.
		for turns, at := range []int{7, 0, 56, 63} {
			modules[at] = 0
			isRead(t, picture(modules, 8, 1, all), c, k, api.Reading{Message: make([]uint8, k), Turns: turns})
			modules[at] = 2
		}
		modules[0], modules[56] = 0, 0
		unread(t, picture(modules, 8, 1, all), c, k, api.ErrMark)
	}
}

// P6.3: what is read from images with all kinds of faults is what a reference reads.
func TestReadAnything(t *testing.T) {
	d := newDice(31)
	several, failed, fitted := 0, 0, 0
	for range 6000 {
		k, s, c := []int{1, 1, 2, 11, 13}[d.Intn(5)], d.from(1, 2), d.contrast()
		m := d.faulty(k, s, c)
		list := readings(m, c, k)
		if len(list) == 0 {
			unread(t, m, c, k, api.ErrMark)
			failed++
			continue
		}
		isRead(t, m, c, k, bestOf(list, 2, 1))
		fitted++
		if len(list) > 1 {
			several++
		}
	}
	if several < 50 || failed < 500 || fitted < 500 {
		t.Error("too few of a kind:", several, failed, fitted)
	}
}

// P6.3: how errors and erased symbols count against one another, where both ways to turn an image can be read.
func TestReadLeast(t *testing.T) {
	d := newDice(34)
	c := api.Contrast{Low: 50, High: 100}
	otherwise := [][2]int{{1, 1}, {3, 1}, {1, 0}, {0, 1}, {-2, -1}}
	differ := make([]int, len(otherwise))
	for range 6000 {
		modules := d.striped()
		m := picture(modules, 8, 1, [3]int{200, 0, 75})
		list := readings(m, c, 1)
		if len(list) == 0 {
			continue
		}
		best := bestOf(list, 2, 1)
		isRead(t, m, c, 1, best)
		for i, o := range otherwise {
			if !sameReading(best, bestOf(list, o[0], o[1])) {
				differ[i]++
			}
		}
	}
	if slices.Min(differ) < 20 {
		t.Error("too few of a kind:", differ)
	}
}

// striped returns the modules of a mark of which most are the same, with stripes of others in both ways, and corners that cannot be read.
func (d dice) striped() []uint8 {
	ground := uint8(d.Intn(2))
	modules := slices.Repeat([]uint8{ground}, 64)
	for range d.from(2, 5) {
		kind := []uint8{1 - ground, 2}[d.Intn(2)]
		step, at := []int{1, 8}[d.Intn(2)], d.Intn(64)
		for range d.from(1, 5) {
			modules[at] = kind
			at = (at + step) % 64
		}
	}
	for _, i := range []int{0, 7, 56, 63} {
		modules[i] = 2
	}
	return modules
}

// faulty returns the image of a mark with symbols that are wrong, modules that are unreadable, and corners that may be either.
func (d dice) faulty(k, s int, c api.Contrast) api.Image {
	word := wordOf(d.symbols(k))
	for _, p := range d.some(15, d.from(0, max(1, (15-k)/2+1))) {
		word[p] = uint8(d.Intn(16))
	}
	modules := markOf(word)
	if d.Intn(3) > 0 {
		for _, i := range []int{0, 7, 56, 63} {
			modules[i] = []uint8{2, 2, modules[i], uint8(d.Intn(3))}[d.Intn(4)]
		}
	}
	for range d.Intn(3) * d.from(0, 3) {
		modules[d.Intn(64)] = 2
	}
	m := filled(8*s, 8*s, 0)
	for i, kind := range modules {
		d.spread(m, i, s, kind, c)
	}
	return turned(m, d.Intn(4))
}

// spread gives the pixels of a module of a mark values with a sum of that kind, if there is one.
func (d dice) spread(m api.Image, i, s int, kind uint8, c api.Contrast) {
	lo, hi := c.Low*s*s+1, c.High*s*s-1
	switch kind {
	case 0:
		lo, hi = c.High*s*s, min(255, c.High+9)*s*s
	case 1:
		lo, hi = max(0, c.Low-9)*s*s, c.Low*s*s
	}
	sum := lo
	if hi > lo {
		sum = d.from(lo, hi)
	}
	for j := range s * s {
		left := s*s - 1 - j
		v := d.from(max(0, sum-255*left), min(255, sum))
		m.Pix[(i/8*s+j/s)*m.W+i%8*s+j%s] = v
		sum -= v
	}
}

// P6.8: a mark that is drawn and turned is read without errors.
func TestReadDrawn(t *testing.T) {
	d := newDice(32)
	for range 1000 {
		message, s, c := d.symbols(d.from(1, 13)), d.from(1, 2), d.contrast()
		ink, paper := d.between(c)
		m := draw(t, message, s, ink, paper)
		for turns := range 9 {
			isRead(t, m, c, len(message), api.Reading{Message: message, Turns: (4 - turns%4) % 4})
			m, _ = image.Turn(m)
		}
	}
}

// P6.8: it is still read if modules other than the corners are changed, up to so many symbols.
func TestReadChanged(t *testing.T) {
	d := newDice(33)
	for range 3000 {
		k, s, c := d.from(1, 13), d.from(1, 2), d.contrast()
		message := d.symbols(k)
		ink, paper := d.between(c)
		m := draw(t, message, s, ink, paper)
		missing := d.from(0, 15-k)
		wrong := (15 - k - missing) / 2
		if c.High-c.Low == 1 && s == 1 {
			missing, wrong = 0, (15-k)/2 // Nothing is unreadable then.
		}
		word := wordOf(message)
		for i, p := range d.some(15, missing+wrong) {
			modules := bitsOf(word[p])
			if i >= missing || d.Intn(2) == 0 {
				modules = bitsOf(d.other(word[p]))
			}
			if i < missing {
				for _, j := range d.some(4, d.from(1, 4)) {
					modules[j] = 2
				}
			}
			for j, kind := range modules {
				d.spread(m, dataPlace(4*p+j), s, kind, c)
			}
		}
		turns := d.Intn(4)
		isRead(t, turned(m, turns), c, k, api.Reading{Message: message, Turns: (4 - turns) % 4, Errors: wrong, Erased: missing})
	}
}

// bitsOf returns the modules of a symbol.
func bitsOf(s uint8) []uint8 { return []uint8{s >> 3 & 1, s >> 2 & 1, s >> 1 & 1, s & 1} }

// dataPlace returns the place of the data module with that number among all modules.
func dataPlace(i int) int {
	switch {
	case i < 6:
		return i + 1
	case i < 54:
		return i + 2
	}
	return i + 3
}

// P6.3, P1 (R1): each error, and with several of them the first one.
func TestReadErrors(t *testing.T) {
	good := api.Contrast{Low: 50, High: 100}
	for _, m := range badImages() {
		unread(t, m, good, 1, api.ErrImage)
		unread(t, m, api.Contrast{}, 0, api.ErrImage)
	}
	for _, m := range []api.Image{filled(8, 8, 0), filled(16, 16, 0), filled(5, 3, 0)} {
		for _, c := range badContrasts() {
			unread(t, m, c, 1, api.ErrArg)
		}
		for _, k := range badLengths() {
			unread(t, m, good, k, api.ErrArg)
		}
		unread(t, m, api.Contrast{}, 0, api.ErrArg)
	}
	for w := 1; w <= 16; w++ {
		for h := 1; h <= 16; h++ {
			want := api.ErrSize
			if w == 8 && h == 8 || w == 16 && h == 16 {
				want = api.ErrMark
			}
			unread(t, filled(w, h, 0), good, 5, want)
		}
	}
}
