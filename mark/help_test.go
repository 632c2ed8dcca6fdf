package mark_test

import (
	"math/rand"
	"slices"
	"testing"

	"sightbench/api"
)

const (
	least = -1 << 63
	over  = 1<<63 - 1
)

// products, inverses and points are what the functions below compute, as they are used very often.
var (
	products [16][16]uint8
	inverses [16]uint8
	points   [15]uint8
)

func init() {
	for a := range uint8(16) {
		for b := range uint8(16) {
			products[a][b] = multiplied(a, b)
			if products[a][b] == 1 {
				inverses[a] = b
			}
		}
	}
	p := uint8(1)
	for i := range points {
		points[i] = p
		p = product(p, 2)
	}
}

func product(a, b uint8) uint8 { return products[a][b] }

// multiplied multiplies two symbols as polynomials and takes the remainder by x^4 + x + 1.
func multiplied(a, b uint8) uint8 {
	p := 0
	for i := range 4 {
		if b>>i&1 == 1 {
			p ^= int(a) << i
		}
	}
	for i := 7; i >= 4; i-- {
		if p>>i&1 == 1 {
			p ^= 0b10011 << (i - 4)
		}
	}
	return uint8(p)
}

// valueAt returns the sum of the symbols of a message, times the powers of p.
func valueAt(message []uint8, p uint8) uint8 {
	sum, power := uint8(0), uint8(1)
	for _, m := range message {
		sum ^= product(m, power)
		power = product(power, p)
	}
	return sum
}

// wordOf returns the word of a message.
func wordOf(message []uint8) []uint8 {
	var word []uint8
	for _, p := range points {
		word = append(word, valueAt(message, p))
	}
	return word
}

// errorsOf returns how many of the symbols that are not erased are not those of a message's word.
func errorsOf(message, word []uint8, erased []bool) int {
	n := 0
	for i, s := range wordOf(message) {
		if !erased[i] && s != word[i] {
			n++
		}
	}
	return n
}

// count returns how many entries are true.
func count(list []bool) int {
	n := 0
	for _, is := range list {
		if is {
			n++
		}
	}
	return n
}

// fit returns the message of k symbols that fits a received word, and its errors, or nil: of those that have the same symbols at some places, for all choices of wrong places.
func fit(word []uint8, erased []bool, k int) ([]uint8, int) {
	room := 15 - k - count(erased)
	if room < 0 {
		return nil, 0
	}
	if k <= 2 {
		return fitOfAll(word, erased, k)
	}
	var places []int
	for i := range 15 {
		if !erased[i] {
			places = append(places, i)
		}
	}
	var message []uint8
	choices(len(places), room/2, func(wrong []int) bool {
		message = through(word, places, wrong, k)
		if 2*errorsOf(message, word, erased) <= room {
			return false
		}
		message = nil
		return true
	})
	if message == nil {
		return nil, 0
	}
	return message, errorsOf(message, word, erased)
}

// fitOfAll does the same by trying all messages.
func fitOfAll(word []uint8, erased []bool, k int) ([]uint8, int) {
	for n := range 1 << (4 * k) {
		message := messageOf(n, k)
		if e := errorsOf(message, word, erased); 2*e+count(erased) <= 15-k {
			return message, e
		}
	}
	return nil, 0
}

// messageOf returns the message of k symbols with a number.
func messageOf(n, k int) []uint8 {
	var message []uint8
	for i := range k {
		message = append(message, uint8(n>>(4*i)&15))
	}
	return message
}

// choices calls use with each choice of m of the numbers below n, until it returns false.
func choices(n, m int, use func(list []int) bool) {
	var list []int
	var more func(from int) bool
	more = func(from int) bool {
		if len(list) == m {
			return use(list)
		}
		for i := from; i < n; i++ {
			list = append(list, i)
			if !more(i + 1) {
				return false
			}
			list = list[:len(list)-1]
		}
		return true
	}
	more(0)
}

// through returns the message of k symbols whose word is as a received one at the first k places that are not said to be wrong.
func through(word []uint8, places, wrong []int, k int) []uint8 {
	var at []int
	for i, p := range places {
		if !slices.Contains(wrong, i) && len(at) < k {
			at = append(at, p)
		}
	}
	message := make([]uint8, k)
	for _, i := range at {
		// The polynomial that is 1 at the point i and 0 at the other ones.
		one := []uint8{1}
		for _, j := range at {
			if j != i {
				one = timesLine(one, points[j], inverses[points[i]^points[j]])
			}
		}
		for d := range message {
			message[d] ^= product(one[d], word[i])
		}
	}
	return message
}

// timesLine returns a polynomial times (x - p) * f.
func timesLine(a []uint8, p, f uint8) []uint8 {
	b := make([]uint8, len(a)+1)
	for i, s := range a {
		b[i] ^= product(f, product(s, p))
		b[i+1] ^= product(f, s)
	}
	return b
}

// dice makes random values.
type dice struct{ *rand.Rand }

func newDice(seed int64) dice { return dice{rand.New(rand.NewSource(seed))} }

// from returns a number from lo to hi.
func (d dice) from(lo, hi int) int { return lo + d.Intn(hi-lo+1) }

// symbols returns n symbols, 0 more often than others.
func (d dice) symbols(n int) []uint8 {
	var list []uint8
	for range n {
		list = append(list, uint8(d.Intn(16)*d.Intn(4)%16))
	}
	return list
}

// some returns m of the numbers below n.
func (d dice) some(n, m int) []int { return d.Perm(n)[:m] }

// other returns a symbol that differs from s.
func (d dice) other(s uint8) uint8 { return s ^ uint8(d.from(1, 15)) }

// contrast returns a valid contrast.
func (d dice) contrast() api.Contrast {
	low := d.from(0, 254)
	return api.Contrast{Low: low, High: d.from(low+1, 255)}
}

// between returns colours of which a contrast says that they are ink and paper.
func (d dice) between(c api.Contrast) (ink, paper int) {
	return d.from(0, c.Low), d.from(c.High, 255)
}

// img returns the image of some values in rows of w.
func img(w int, pix ...int) api.Image { return api.Image{W: w, H: len(pix) / w, Pix: pix} }

// filled returns an image of one value.
func filled(w, h, value int) api.Image {
	return api.Image{W: w, H: h, Pix: slices.Repeat([]int{value}, w*h)}
}

// equal reports whether two images are the same.
func equal(a, b api.Image) bool {
	return a.W == b.W && a.H == b.H && slices.Equal(a.Pix, b.Pix)
}

// sameReading reports whether two readings are the same.
func sameReading(a, b api.Reading) bool {
	return slices.Equal(a.Message, b.Message) && a.Turns == b.Turns && a.Errors == b.Errors && a.Erased == b.Erased
}

// noImage and noReading report whether a result is a zero value.
func noImage(m api.Image) bool { return equal(m, api.Image{}) }

func noReading(r api.Reading) bool { return sameReading(r, api.Reading{}) }

// turned returns an image that is turned so many times, each value taken to its place at once.
func turned(m api.Image, times int) api.Image {
	n := m.W // Only squares are turned here.
	list := make([]int, n*n)
	for y := range n {
		for x := range n {
			to := [4][2]int{{x, y}, {n - 1 - y, x}, {n - 1 - x, n - 1 - y}, {y, n - 1 - x}}[times%4]
			list[to[1]*n+to[0]] = m.Pix[y*n+x]
		}
	}
	return img(n, list...)
}

// modulesOf returns the modules of an image.
func modulesOf(m api.Image, s int, c api.Contrast) []uint8 {
	var list []uint8
	for j := range m.H / s {
		for i := range m.W / s {
			sum := 0
			for x := i * s; x <= i*s+s-1; x++ {
				for y := j * s; y <= j*s+s-1; y++ {
					sum += m.Pix[y*m.W+x]
				}
			}
			kind := uint8(2)
			if sum <= c.Low*s*s {
				kind = 1
			}
			if sum >= c.High*s*s {
				kind = 0
			}
			list = append(list, kind)
		}
	}
	return list
}

// picture returns the image of modules in rows of w, each with s * s pixels of its value.
func picture(modules []uint8, w, s int, values [3]int) api.Image {
	h := len(modules) / w
	m := filled(w*s, h*s, -1)
	for i, kind := range modules {
		for x := range s {
			for y := range s {
				m.Pix[(i/w*s+y)*w*s+i%w*s+x] = values[kind]
			}
		}
	}
	return m
}

// markOf returns the modules of the mark of a word.
func markOf(word []uint8) []uint8 {
	var bits []uint8
	for _, s := range word {
		bits = append(bits, s/8, s/4%2, s/2%2, s%2)
	}
	list := slices.Concat([]uint8{1}, bits[:6], []uint8{0}, bits[6:54], []uint8{1}, bits[54:], []uint8{1})
	return list
}

// wordIn returns the received word in the modules of a mark.
func wordIn(modules []uint8) (word []uint8, erased []bool) {
	bits := slices.Concat(modules[1:7], modules[8:56], modules[57:63])
	for four := range slices.Chunk(bits, 4) {
		word = append(word, four[0]&1<<3|four[1]&1<<2|four[2]&1<<1|four[3]&1)
		erased = append(erased, slices.Contains(four, 2))
	}
	return word, erased
}

// readings returns for each turn after which an image is upright and a message fits what is read then.
func readings(m api.Image, c api.Contrast, k int) []api.Reading {
	var list []api.Reading
	for t := range 4 {
		modules := modulesOf(turned(m, t), m.W/8, c)
		if modules[0] == 0 || modules[7] == 1 || modules[56] == 0 || modules[63] == 0 {
			continue
		}
		word, erased := wordIn(modules)
		if message, e := fit(word, erased, k); message != nil {
			list = append(list, api.Reading{Message: message, Turns: t, Errors: e, Erased: count(erased)})
		}
	}
	return list
}

// bestOf returns the reading that counts, if an error and an erased symbol count so much: 2 and 1.
func bestOf(list []api.Reading, wrong, missing int) api.Reading {
	cost := func(r api.Reading) int { return wrong*r.Errors + missing*r.Erased }
	best := list[0]
	for _, r := range list {
		if cost(r) < cost(best) || cost(r) == cost(best) && r.Turns < best.Turns {
			best = r
		}
	}
	return best
}

// badImages returns images that are none of a camera.
func badImages() []api.Image {
	list := []api.Image{
		{}, {W: 8, H: 8}, {W: 8, H: 8, Pix: make([]int, 63)}, {W: 8, H: 8, Pix: make([]int, 65)}, {W: -8, H: -8, Pix: make([]int, 64)}, {W: 0, H: 0, Pix: []int{}},
		{W: 17, H: 17, Pix: make([]int, 289)}, {W: 32, H: 2, Pix: make([]int, 64)}, {W: over, H: over, Pix: make([]int, 1)}, {W: least, H: least}, {W: 1 << 32, H: 1 << 32},
	}
	for _, v := range []int{-1, 256, 257, -256, api.MaxPix, -api.MaxPix, api.MaxPix + 1, least, over} {
		for _, i := range []int{0, 30, 63} {
			m := filled(8, 8, 0)
			m.Pix[i] = v
			list = append(list, m)
		}
	}
	return list
}

// badContrasts returns contrasts that are not valid; their fields are also no ink and paper.
func badContrasts() []api.Contrast {
	return []api.Contrast{
		{}, {Low: 5, High: 5}, {Low: 6, High: 5}, {Low: -1, High: 5}, {Low: 5, High: 256}, {Low: -1, High: -1}, {Low: 255, High: 255}, {Low: 255, High: 256}, {Low: 256, High: 257},
		{Low: least, High: over}, {Low: least, High: 5}, {Low: 5, High: over}, {Low: over, High: least}, {Low: 100, High: 50},
	}
}

// badSizes returns numbers that are no sides of modules, badLengths numbers that are no lengths of messages.
func badSizes() []int { return []int{0, -1, 3, 4, -2, 8, 16, least, over, 1 << 32} }

func badLengths() []int { return []int{0, -1, 14, 15, 16, least, over, 1 << 32} }

// badMessages returns lists that are no messages.
func badMessages() [][]uint8 {
	list := [][]uint8{nil, {}, make([]uint8, 14), make([]uint8, 15), make([]uint8, 16), make([]uint8, 1000)}
	for _, s := range []uint8{16, 17, 128, 255} {
		list = append(list, []uint8{s}, []uint8{s, 1}, []uint8{1, 2, s}, append(make([]uint8, 12), s))
	}
	return list
}

// fails fails the test unless a call returned that error and zero values.
func fails(t *testing.T, name string, zero bool, e, want api.Errno) {
	t.Helper()
	if !zero || e != want {
		t.Errorf("%s: %v with zero values (%v) instead of %v", name, e, zero, want)
	}
}
