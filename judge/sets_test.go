package judge_test

import (
	"slices"
	"testing"

	"sightbench/api"
	"sightbench/judge"
)

// spread returns the set of the images that a change allows.
func spread(t *testing.T, m api.Image, c api.Change) (api.Image, api.Image) {
	t.Helper()
	lo, hi, e := judge.Spread(m, c)
	if e != api.OK {
		t.Fatal(m, c, e)
	}
	return lo, hi
}

// isSpread fails the test unless an image is spread as the document says.
func isSpread(t *testing.T, m api.Image, c api.Change) {
	t.Helper()
	lo, hi := spread(t, m, c)
	if below, above := spreadOf(m, c); !equal(lo, below) || !equal(hi, above) {
		t.Fatal(m, c, lo, hi, below, above)
	}
}

// P8.2: the document's examples.
func TestSpreadExamples(t *testing.T) {
	lo, hi := spread(t, row(100, 50), api.Change{GainLo: 90, GainHi: 110, Offset: 1, Noise: 2})
	if !equal(lo, row(87, 42)) || !equal(hi, row(113, 58)) {
		t.Error(lo, hi)
	}
	lo, hi = spread(t, row(100, 50), api.Change{Shift: 1, GainLo: 100, GainHi: 100})
	if !equal(lo, row(50, 50)) || !equal(hi, row(100, 100)) {
		t.Error(lo, hi)
	}
	// A gain is rounded down before anything is added, and the range is that of a camera.
	lo, hi = spread(t, row(199, 255, 0), api.Change{GainLo: 99, GainHi: 149, Offset: 1, Noise: 3})
	if !equal(lo, row(193, 248, 0)) || !equal(hi, row(255, 255, 4)) {
		t.Error(lo, hi)
	}
	lo, hi = spread(t, row(1, 2, 3, 4, 5, 6), api.Change{Shift: 2})
	if !equal(lo, filled(6, 1, 0)) || !equal(hi, lo) {
		t.Error(lo, hi)
	}
}

// P8.2: random images and changes.
func TestSpread(t *testing.T) {
	d := newDice(10)
	for w := 1; w <= 16; w++ {
		for h := 1; h <= 16; h++ {
			c := d.change()
			c.GainHi = min(400, c.GainLo+d.from(0, 8))
			isSpread(t, d.image(w, h), c)
		}
	}
	for range 400 {
		isSpread(t, d.image(d.from(1, 4), d.from(1, 4)), d.change())
	}
	for _, c := range []api.Change{{}, {GainLo: 400, GainHi: 400}, {Shift: 2, GainHi: 400, Offset: 255, Noise: 255}, {GainLo: 100, GainHi: 100, Offset: 255}, {GainLo: 100, GainHi: 100, Noise: 255}, {GainLo: 400, GainHi: 400, Offset: 255, Noise: 255}} {
		isSpread(t, d.image(5, 4), c)
		isSpread(t, filled(3, 3, 255), c)
		isSpread(t, filled(3, 3, 0), c)
	}
}

// changed returns an image changed by one of the changes that are allowed.
func (d dice) changed(m api.Image, c api.Change) api.Image {
	dx, dy := d.from(-c.Shift, c.Shift), d.from(-c.Shift, c.Shift)
	gain, offset := d.from(c.GainLo, c.GainHi), d.from(-c.Offset, c.Offset)
	a := filled(m.W, m.H, 0)
	for i := range a.Pix {
		a.Pix[i] = litOf(m, i%m.W, i/m.W, dx, dy, gain, offset+d.from(-c.Noise, c.Noise))
	}
	return a
}

// P8.9: each image that a change allows is in the set, and has the verdict that is certified for it.
func TestChanges(t *testing.T) {
	d := newDice(11)
	var certified [4]int
	for range 1500 {
		n, c := d.network(d.from(1, 5), d.from(1, 5)), d.change()
		c.GainLo = d.from(90, 105)
		c.GainHi = d.from(c.GainLo, 110)
		m := d.image(n.W, n.H)
		lo, hi := spread(t, m, c)
		v := certify(t, n, lo, hi, d.from(0, 6))
		certified[v]++
		for range 30 {
			a := d.changed(m, c)
			for i, value := range a.Pix {
				if value < lo.Pix[i] || value > hi.Pix[i] {
					t.Fatal("not in the set", m, c, a)
				}
			}
			if _, is, e := judge.Classify(n, a); e != api.OK || v != api.Undecided && is != v {
				t.Fatal("not certified", n, m, c, a, v, is, e)
			}
		}
	}
	if min(certified[1], certified[2]) < 50 {
		t.Error(certified)
	}
}

// P8.2: each error, and with both of them the first one.
func TestSpreadErrors(t *testing.T) {
	check := func(m api.Image, c api.Change, want api.Errno) {
		t.Helper()
		lo, hi, e := judge.Spread(m, c)
		fails(t, "Spread", isNothing(lo) && isNothing(hi), e, want)
	}
	for _, m := range badImages() {
		check(m, api.Change{}, api.ErrImage)
		check(m, api.Change{Shift: 3}, api.ErrImage)
	}
	for _, c := range badChanges() {
		check(filled(3, 3, 7), c, api.ErrArg)
	}
}

// certify returns the certificate for a set of images.
func certify(t *testing.T, n api.Network, lo, hi api.Image, splits int) uint8 {
	t.Helper()
	v, e := judge.Certify(n, lo, hi, splits)
	if e != api.OK {
		t.Fatal(n, lo, hi, splits, e)
	}
	return v
}

// isCertified fails the test unless a set is certified as the document says.
func isCertified(t *testing.T, n api.Network, lo, hi api.Image, splits int) uint8 {
	t.Helper()
	v := certify(t, n, lo, hi, splits)
	if want := certificateOf(n, featuresOf(n, lo), featuresOf(n, hi), splits); v != want {
		t.Fatal(n, lo, hi, splits, v, want)
	}
	return v
}

// P8.3: the document's examples.
func TestCertifyExamples(t *testing.T) {
	for _, x := range []struct {
		lo, hi api.Image
		splits int
		want   uint8
	}{
		{row(100, 0), row(120, 10), 0, api.Pass}, {row(0, 0), row(3, 3), 0, api.Fail}, {row(100, 100), row(115, 115), 0, api.Undecided}, {row(100, 100), row(115, 115), 1, api.Undecided},
		// Without splits both differences count, as they may be 7 each; if one pixel is halved, one of them is at most 3.
		{row(0, 0), row(5, 5), 0, api.Fail}, {row(0, 0), row(7, 7), 0, api.Undecided}, {row(0, 0), row(7, 7), 1, api.Fail},
		{row(100, 100), row(108, 108), 1, api.Undecided}, {row(100, 100), row(108, 108), 2, api.Fail}, {row(0, 100), row(0, 100), 0, api.Pass}, {row(0, 15), row(0, 15), 8, api.Undecided},
	} {
		if v := isCertified(t, example(), x.lo, x.hi, x.splits); v != x.want {
			t.Error(x, v)
		}
	}
}

// P8.3, P8.8: random sets, with all numbers of splits: a certificate stays what it is, unless it was Undecided.
func TestCertify(t *testing.T) {
	d := newDice(12)
	var certified [4]int
	for range 4000 {
		n := d.network(d.from(1, 6), d.from(1, 6))
		lo, hi := d.set(n.W, n.H, []int{0, 2, 10, 60, 255}[d.Intn(5)])
		before := api.Undecided
		for splits := range 9 {
			v := isCertified(t, n, lo, hi, splits)
			if before != api.Undecided && v != before {
				t.Fatal(n, lo, hi, splits, before, v)
			}
			if v != before {
				certified[0]++
			}
			before = v
		}
		certified[before]++
	}
	if min(certified[0], certified[1], certified[2], certified[3]) < 300 {
		t.Error(certified)
	}
}

// tight returns a network, and a set of which some images have the greatest score that fails, or the least one that passes, or one near it.
func (d dice) tight() (n api.Network, lo, hi api.Image) {
	n = d.network(d.from(1, 4), d.from(1, 2))
	lo, hi = d.set(n.W, n.H, d.from(1, 60))
	scores := []int{scoreOf(n, featuresOf(n, lo)), scoreOf(n, featuresOf(n, hi))}
	for range 50 {
		scores = append(scores, scoreOf(n, featuresOf(n, d.within(lo, hi))))
	}
	near := d.from(0, []int{1, 20, 400}[d.Intn(3)])
	if d.Intn(2) == 0 {
		n.Low = slices.Max(scores) + near
		n.High = n.Low + 1
	} else {
		n.High = slices.Min(scores) - near
		n.Low = n.High - 1
	}
	return n, lo, hi
}

// P8.3: sets that one split more or less decides.
func TestSplits(t *testing.T) {
	d := newDice(13)
	var decided [9][4]int
	for range 3000 {
		n, lo, hi := d.tight()
		before := isCertified(t, n, lo, hi, 0)
		for splits := 1; splits <= 8; splits++ {
			v := isCertified(t, n, lo, hi, splits)
			if v != before {
				decided[splits][v]++
			}
			before = v
		}
	}
	for splits := 1; splits <= 8; splits++ {
		if decided[splits][1] < 5 || decided[splits][2] < 5 {
			t.Error(splits, decided[splits])
		}
	}
}

// P8.8: a certificate holds for the images of its set; for a single image it is its verdict.
func TestCertificatesHold(t *testing.T) {
	d := newDice(14)
	held := 0
	for range 3000 {
		n := d.network(d.from(1, 6), d.from(1, 6))
		lo, hi := d.set(n.W, n.H, []int{1, 5, 20, 100}[d.Intn(4)])
		v := certify(t, n, lo, hi, d.from(0, 8))
		for range 20 {
			m := d.within(lo, hi)
			_, is := isClassified(t, n, m)
			if v != api.Undecided && is != v {
				t.Fatal(n, lo, hi, m, v, is)
			}
			if own := certify(t, n, m, m, d.from(0, 8)); own != is {
				t.Fatal(n, m, own, is)
			}
		}
		if v != api.Undecided {
			held++
		}
	}
	if held < 500 {
		t.Error(held)
	}
}

// P8.8: all images of small sets.
func TestSmallSets(t *testing.T) {
	d := newDice(15)
	for range 200 {
		n := d.network(3, 1)
		lo, hi := d.set(3, 1, 9)
		v := certify(t, n, lo, hi, 8)
		for a := lo.Pix[0]; a <= hi.Pix[0]; a++ {
			for b := lo.Pix[1]; b <= hi.Pix[1]; b++ {
				for c := lo.Pix[2]; c <= hi.Pix[2]; c++ {
					if _, is, e := judge.Classify(n, row(a, b, c)); e != api.OK || v != api.Undecided && v != is {
						t.Fatal(n, lo, hi, a, b, c, v, is, e)
					}
				}
			}
		}
	}
}

// P8.8: without splits a certificate stays what it is for smaller sets.
func TestSmallerSets(t *testing.T) {
	d := newDice(16)
	for range 3000 {
		n := d.network(d.from(1, 5), d.from(1, 5))
		lo, hi := d.set(n.W, n.H, d.from(1, 60))
		v := certify(t, n, lo, hi, 0)
		m, l := d.within(lo, hi), d.within(lo, hi)
		for i := range m.Pix {
			m.Pix[i], l.Pix[i] = min(m.Pix[i], l.Pix[i]), max(m.Pix[i], l.Pix[i])
		}
		if smaller := certify(t, n, m, l, 0); v != api.Undecided && smaller != v {
			t.Fatal(n, lo, hi, m, l, v, smaller)
		}
	}
}

// P8.3: the greatest networks and sets.
func TestLargeSets(t *testing.T) {
	lo, hi := filled(16, 16, 0), filled(16, 16, 255)
	for _, sign := range []int{-1, 1} {
		n := full(sign)
		for _, splits := range []int{0, 1, 8} {
			isCertified(t, n, lo, hi, splits)
		}
		n.Low, n.High = min(0, sign)*5000000000000000, max(0, sign)*5000000000000000+1
		for _, splits := range []int{0, 1, 8} {
			isCertified(t, n, lo, hi, splits)
		}
	}
}

// P8.3: each error, and with several of them the first one.
func TestCertifyErrors(t *testing.T) {
	check := func(n api.Network, lo, hi api.Image, splits int, want api.Errno) {
		t.Helper()
		v, e := judge.Certify(n, lo, hi, splits)
		fails(t, "Certify", v == 0, e, want)
	}
	n, m, other := sized(3, 3, 3, 1, 1), filled(3, 3, 7), filled(3, 4, 7)
	for _, bad := range badImages() {
		for _, splits := range []int{0, 9} {
			check(n, bad, m, splits, api.ErrImage)
			check(n, m, bad, splits, api.ErrImage)
			check(n, other, bad, splits, api.ErrImage)
			check(n, bad, other, splits, api.ErrImage)
		}
	}
	for _, other := range []api.Image{filled(3, 4, 7), filled(4, 3, 7), filled(1, 9, 7), filled(9, 1, 7), filled(1, 1, 0), filled(16, 16, 255)} {
		for _, splits := range []int{0, -1} {
			check(n, m, other, splits, api.ErrSize)
			check(n, other, m, splits, api.ErrSize)
			check(n, other, other, splits, api.ErrSize)
		}
	}
	for i := range m.Pix {
		less := api.Image{W: 3, H: 3, Pix: slices.Clone(m.Pix)}
		less.Pix[i]--
		check(n, m, less, 0, api.ErrArg)
		check(n, m, less, 9, api.ErrArg)
		certify(t, n, less, m, 8)
	}
	for _, splits := range beyond(0, 8) {
		check(n, m, m, splits, api.ErrArg)
	}
}
