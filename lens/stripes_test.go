package lens_test

import (
	"slices"
	"testing"

	"sightbench/api"
	"sightbench/lens"
)

// P4.5
func TestGray(t *testing.T) {
	for k, want := range []int{0, 1, 3, 2, 6, 7, 5, 4, 12} {
		if n := must[int](t)(lens.Gray(k)); n != want {
			t.Error(k, n)
		}
	}
	last := must[int](t)(lens.Gray(255))
	if last != 128 {
		t.Error(last)
	}
	for k := range 256 {
		n := must[int](t)(lens.Gray(k))
		// Each bit tells whether the bit of k and the one above it differ.
		for bit := 1; bit < 256; bit *= 2 {
			if (n/bit%2 == 1) != (k/bit%2 != k/bit/2%2) {
				t.Error(k, n)
			}
		}
		if n > 255 {
			t.Error(k, n)
		}
	}
	for _, k := range []int{least, -256, -1, 256, 257, over} {
		fails[int](t, "Gray", api.ErrArg)(lens.Gray(k))
	}
}

// codes returns for each number of a stripe of so many bits what its Gray code is, made by mirroring.
func codes(bits int) [][]int {
	if bits == 0 {
		return [][]int{nil}
	}
	var list [][]int
	half := codes(bits - 1)
	for _, c := range half {
		list = append(list, append([]int{0}, c...))
	}
	for _, c := range slices.Backward(half) {
		list = append(list, append([]int{1}, c...))
	}
	return list
}

// stripes returns what Stripes has to return for valid arguments.
func stripes(on, off []int, noise int) []int {
	var list []int
	for k, code := range codes(len(on)) {
		may := true
		for i, bit := range code {
			switch {
			case on[i]-off[i] > 2*noise:
				may = may && bit == 1
			case off[i]-on[i] > 2*noise:
				may = may && bit == 0
			}
		}
		if may {
			list = append(list, k)
		}
	}
	return list
}

func sameStripes(t *testing.T, on, off []int, noise int, want ...int) {
	t.Helper()
	if list, e := lens.Stripes(on, off, noise); e != api.OK || !slices.Equal(list, want) {
		t.Fatalf("Stripes(%v, %v, %v): %v, %v instead of %v", on, off, noise, list, e, want)
	}
}

// P4.5: the document's example, and the edges of what is open.
func TestStripeExamples(t *testing.T) {
	sameStripes(t, []int{90, 50, 20}, []int{10, 48, 70}, 5, 4, 7)
	sameStripes(t, []int{90, 58, 20}, []int{10, 48, 70}, 5, 4, 7)
	sameStripes(t, []int{90, 59, 20}, []int{10, 48, 70}, 5, 4)
	sameStripes(t, []int{90, 38, 20}, []int{10, 48, 70}, 5, 4, 7)
	sameStripes(t, []int{90, 37, 20}, []int{10, 48, 70}, 5, 7)
	sameStripes(t, []int{0}, []int{0}, 0, 0, 1)
	sameStripes(t, []int{1}, []int{0}, 0, 1)
	sameStripes(t, []int{0}, []int{1}, 0, 0)
	sameStripes(t, []int{255}, []int{127}, 64, 0, 1)
	sameStripes(t, []int{255}, []int{126}, 64, 1)
	sameStripes(t, []int{255, 0, 0, 0, 0, 0, 0, 0}, []int{0, 255, 255, 255, 255, 255, 255, 255}, 64, 255)
	all, e := lens.Stripes(make([]int, 8), make([]int, 8), 0)
	if e != api.OK || len(all) != 256 || all[0] != 0 || all[255] != 255 {
		t.Error(all, e)
	}
}

// sight returns two lists of values of n bits.
func (d dice) sight(n int) (on, off []int) {
	for range n {
		v := d.from(0, api.MaxValue)
		on = append(on, v)
		off = append(off, max(0, min(v+d.from(-40, 40), api.MaxValue)))
	}
	return on, off
}

// P4.5
func TestStripes(t *testing.T) {
	d := newDice(30)
	for range 3000 {
		on, off := d.sight(d.from(1, api.MaxBits))
		noise := d.from(0, 20)
		sameStripes(t, on, off, noise, stripes(on, off, noise)...)
	}
}

// P4.5 (R2, R5)
func TestStripeErrors(t *testing.T) {
	wrong := func(on, off []int, noise int) {
		t.Helper()
		if list, e := lens.Stripes(on, off, noise); len(list) != 0 || e != api.ErrArg {
			t.Errorf("Stripes(%v, %v, %v): %v, %v", on, off, noise, list, e)
		}
	}
	zeros := func(n int) []int { return make([]int, n) }
	wrong(nil, nil, 0)
	wrong([]int{}, nil, 0)
	wrong(zeros(9), zeros(9), 0)
	for n := range 10 {
		for m := range 10 {
			if n != m {
				wrong(zeros(n), zeros(m), 0)
			}
		}
	}
	for _, n := range []int{least, -64, -1, 65, over} {
		wrong(zeros(3), zeros(3), n)
	}
	for _, n := range []int{least, -255, -1, 256, over} {
		for i := range 3 {
			list := zeros(3)
			list[i] = n
			wrong(list, zeros(3), 1)
			wrong(zeros(3), list, 1)
			wrong(list, list, 1)
		}
	}
	sameStripes(t, []int{255, 0}, []int{0, 255}, 0, 3)
}

// P4.8: the stripe of a pixel is among the results if the values are off by at most the noise, and each bit was brighter on the side of its value, or equal.
func TestStripeIsFound(t *testing.T) {
	d := newDice(31)
	for range 5000 {
		bits, noise := d.from(1, api.MaxBits), d.from(0, api.MaxNoise)
		k := d.Intn(1 << bits)
		seen := func(ideal int) int { return max(0, min(ideal+d.from(-noise, noise), api.MaxValue)) }
		var on, off []int
		for _, bit := range codes(bits)[k] {
			bright := d.from(0, api.MaxValue)
			dark := max(0, bright-d.from(0, 3*noise))
			if bit == 0 {
				bright, dark = dark, bright
			}
			on, off = append(on, seen(bright)), append(off, seen(dark))
		}
		list, e := lens.Stripes(on, off, noise)
		if e != api.OK || !slices.Contains(list, k) {
			t.Fatal(on, off, noise, k, list, e)
		}
	}
}
