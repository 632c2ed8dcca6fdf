package mark_test

import (
	"slices"
	"testing"

	"sightbench/api"
	"sightbench/mark"
)

// encode returns the word of a message.
func encode(t *testing.T, message []uint8) []uint8 {
	t.Helper()
	word, e := mark.Encode(message)
	if e != api.OK {
		t.Fatal(message, e)
	}
	return word
}

// decoded fails the test unless a received word is decoded like that; nil is ErrMark.
func decoded(t *testing.T, word []uint8, erased []bool, k int, want []uint8, wrong int) {
	t.Helper()
	message, n, e := mark.Decode(word, erased, k)
	if want == nil {
		fails(t, "Decode", len(message) == 0 && n == 0, e, api.ErrMark)
	} else if !slices.Equal(message, want) || n != wrong || e != api.OK {
		t.Fatalf("Decode(%v, %v, %d): %v, %d, %v instead of %v, %d", word, erased, k, message, n, e, want, wrong)
	}
}

// firstErased returns entries of which the first n are true.
func firstErased(n int) []bool {
	list := make([]bool, 15)
	for i := range n {
		list[i] = true
	}
	return list
}

// P6.1
func TestEncode(t *testing.T) {
	if w := encode(t, []uint8{5}); !slices.Equal(w, slices.Repeat([]uint8{5}, 15)) {
		t.Error(w)
	}
	if w := encode(t, []uint8{0, 1}); !slices.Equal(w, []uint8{1, 2, 4, 8, 3, 6, 12, 11, 5, 10, 7, 14, 15, 13, 9}) {
		t.Error(w)
	}
	d := newDice(1)
	for k := 1; k <= 13; k++ {
		for range 200 {
			m := d.symbols(k)
			if w := encode(t, m); !slices.Equal(w, wordOf(m)) {
				t.Errorf("%v: %v", m, w)
			}
		}
		top := slices.Repeat([]uint8{15}, k)
		if w := encode(t, top); !slices.Equal(w, wordOf(top)) {
			t.Errorf("%v: %v", top, w)
		}
	}
	for _, m := range badMessages() {
		w, e := mark.Encode(m)
		fails(t, "Encode", len(w) == 0, e, api.ErrArg)
	}
}

// P6.6: the word of a sum is the sum of the words.
func TestSumOfWords(t *testing.T) {
	d := newDice(2)
	for range 2000 {
		k := d.from(1, 13)
		a, b := d.symbols(k), d.symbols(k)
		sum, words := make([]uint8, k), make([]uint8, 15)
		for i := range a {
			sum[i] = a[i] ^ b[i]
		}
		v, w := encode(t, a), encode(t, b)
		for i := range v {
			words[i] = v[i] ^ w[i]
		}
		if s := encode(t, sum); !slices.Equal(s, words) {
			t.Fatal(a, b, s, words)
		}
	}
}

// differ returns in how many places two words differ.
func differ(a, b []uint8) int {
	n := 0
	for i := range a {
		if a[i] != b[i] {
			n++
		}
	}
	return n
}

// P6.7: the words of different messages differ in many places.
func TestDistanceOfWords(t *testing.T) {
	for k := 1; k <= 4; k++ {
		// As words add up, it is enough to compare them with that of zeros.
		fewest := 15
		for n := 1; n < 1<<(4*k); n++ {
			fewest = min(fewest, differ(encode(t, messageOf(n, k)), make([]uint8, 15)))
		}
		if fewest != 16-k {
			t.Error(k, fewest)
		}
	}
	d := newDice(3)
	for range 5000 {
		k := d.from(1, 13)
		a, b := d.symbols(k), d.symbols(k)
		if d.Intn(2) == 0 {
			b = slices.Clone(a)
			b[d.Intn(k)] = uint8(d.Intn(16))
		}
		if n := differ(encode(t, a), encode(t, b)); n < 16-k && !slices.Equal(a, b) {
			t.Fatal(a, b, n)
		}
	}
}

// P6.1
func TestDecodeExamples(t *testing.T) {
	word := []uint8{1, 2, 4, 8, 3, 6, 12, 11, 5, 10, 7, 14, 15, 13, 9}
	for _, x := range []struct {
		zeros, erased int
		want          []uint8
		wrong         int
	}{
		{0, 0, []uint8{0, 1}, 0}, {1, 0, []uint8{0, 1}, 1}, {6, 0, []uint8{0, 1}, 6}, {7, 0, nil, 0},
		{0, 13, []uint8{0, 1}, 0}, {13, 13, []uint8{0, 1}, 0}, {0, 14, nil, 0}, {0, 15, nil, 0}, {7, 1, []uint8{0, 1}, 6}, {7, 2, []uint8{0, 1}, 5}, {9, 5, []uint8{0, 1}, 4}, {10, 5, nil, 0},
	} {
		w := slices.Clone(word)
		for i := range x.zeros {
			w[i] = 0
		}
		decoded(t, w, firstErased(x.erased), 2, x.want, x.wrong)
	}
	decoded(t, slices.Repeat([]uint8{7}, 15), firstErased(0), 1, []uint8{7}, 0)
	decoded(t, slices.Repeat([]uint8{7}, 15), firstErased(0), 13, append([]uint8{7}, make([]uint8, 12)...), 0)
	decoded(t, slices.Repeat([]uint8{7}, 15), firstErased(2), 13, append([]uint8{7}, make([]uint8, 12)...), 0)
	decoded(t, slices.Repeat([]uint8{7}, 15), firstErased(3), 13, nil, 0)
	decoded(t, make([]uint8, 15), firstErased(14), 1, []uint8{0}, 0)
	decoded(t, make([]uint8, 15), firstErased(15), 1, nil, 0)
}

// P6.1: what an erased symbol says does not matter, but it is a symbol.
func TestDecodeArguments(t *testing.T) {
	word, none := make([]uint8, 15), make([]bool, 15)
	for _, n := range []int{0, 1, 14, 16, 30} {
		for _, x := range []struct {
			word   []uint8
			erased []bool
		}{{make([]uint8, n), none}, {word, make([]bool, n)}, {make([]uint8, n), make([]bool, n)}, {nil, none}, {word, nil}} {
			m, wrong, e := mark.Decode(x.word, x.erased, 1)
			fails(t, "Decode", len(m) == 0 && wrong == 0, e, api.ErrArg)
		}
	}
	for _, k := range badLengths() {
		for _, erased := range [][]bool{none, firstErased(15)} {
			m, wrong, e := mark.Decode(word, erased, k)
			fails(t, "Decode", len(m) == 0 && wrong == 0, e, api.ErrArg)
		}
	}
	for _, s := range []uint8{16, 17, 128, 255} {
		for i := range 15 {
			bad, erased := make([]uint8, 15), make([]bool, 15)
			bad[i] = s
			for range 2 {
				m, wrong, e := mark.Decode(bad, erased, 3)
				fails(t, "Decode", len(m) == 0 && wrong == 0, e, api.ErrArg)
				erased[i] = true
			}
		}
	}
}

// P6.7: up to so many changed and erased symbols the message is found, and the number of changed ones that are not erased.
func TestDecodeWithinItsBounds(t *testing.T) {
	d := newDice(4)
	for k := 1; k <= 13; k++ {
		for missing := range 15 - k + 1 {
			for wrong := range (15-k-missing)/2 + 1 {
				for range 20 {
					message := d.symbols(k)
					word, erased := wordOf(message), make([]bool, 15)
					places := d.some(15, missing+wrong)
					for i, p := range places {
						erased[p] = i < missing
						if i >= missing || d.Intn(2) == 0 {
							word[p] = d.other(word[p])
						}
					}
					decoded(t, word, erased, k, message, wrong)
				}
			}
		}
	}
}

// P6.7: all patterns of one and of two errors.
func TestDecodeFewErrors(t *testing.T) {
	d := newDice(5)
	message := d.symbols(13)
	for i := range 15 {
		for s := range uint8(16) {
			word := wordOf(message)
			wrong := 0
			if word[i] != s {
				word[i], wrong = s, 1
			}
			decoded(t, word, make([]bool, 15), 13, message, wrong)
		}
	}
	message = d.symbols(11)
	choices(15, 2, func(list []int) bool {
		word := wordOf(message)
		for _, i := range list {
			word[i] = d.other(word[i])
		}
		decoded(t, word, make([]bool, 15), 11, message, 2)
		return true
	})
	message = d.symbols(3)
	choices(15, 6, func(list []int) bool {
		word := wordOf(message)
		for _, i := range list {
			word[i] = d.other(word[i])
		}
		decoded(t, word, make([]bool, 15), 3, message, 6)
		return true
	})
}

// P6.1, P6.7: what is decoded fits, and there is nothing else that fits, near the bound and beyond it.
func TestDecodeAnyWord(t *testing.T) {
	d := newDice(6)
	for k := 1; k <= 13; k++ {
		fitted, failed := 0, 0
		for i := range 150 {
			word, erased := d.symbols(15), make([]bool, 15)
			missing := 0
			if d.Intn(2) == 0 {
				missing = min(15, d.from(0, 16-k))
			}
			for _, p := range d.some(15, missing) {
				erased[p] = true
			}
			if i%3 > 0 {
				word = wordOf(d.symbols(k))
				for _, p := range d.some(15, min(15, d.from(0, 2)+max(0, 15-k-missing)/2)) {
					word[p] = uint8(d.Intn(16))
				}
			}
			want, wrong := fit(word, erased, k)
			decoded(t, word, erased, k, want, wrong)
			if want == nil {
				failed++
			} else {
				fitted++
			}
		}
		if fitted < 10 || failed < 10 {
			t.Error("not both ways:", k, fitted, failed)
		}
	}
}

// P6.1: what an erased symbol says does not matter.
func TestDecodeErased(t *testing.T) {
	d := newDice(7)
	for range 500 {
		k := d.from(1, 13)
		word, erased := wordOf(d.symbols(k)), make([]bool, 15)
		for _, p := range d.some(15, d.from(0, 15-k)) {
			erased[p] = true
		}
		for _, p := range d.some(15, d.from(0, 2)) {
			word[p] = uint8(d.Intn(16))
		}
		m, wrong, e := mark.Decode(word, erased, k)
		for i := range word {
			if erased[i] {
				word[i] = uint8(d.Intn(16))
			}
		}
		n, again, f := mark.Decode(word, erased, k)
		if !slices.Equal(m, n) || wrong != again || e != f {
			t.Fatal(word, erased, k)
		}
	}
}

// The references of these tests agree with one another.
func TestReferences(t *testing.T) {
	d := newDice(8)
	for range 30 {
		message := d.symbols(4)
		if got := through(wordOf(message), []int{0, 3, 4, 9, 12, 14}, []int{1, 5}, 4); !slices.Equal(got, message) {
			t.Fatal(message, got)
		}
	}
	for i, p := range points {
		if p == 0 || slices.Index(points[:], p) != i || product(p, inverses[p]) != 1 {
			t.Fatal(points)
		}
	}
}
