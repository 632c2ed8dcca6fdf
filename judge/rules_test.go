package judge_test

import (
	"slices"
	"testing"

	"sightbench/api"
	"sightbench/judge"
)

// roomy returns a copy of a list with more memory behind its end, and all of that memory.
func roomy[T any](list []T, filling T) (short, long []T) {
	long = append(slices.Clone(list), slices.Repeat([]T{filling}, 300)...)
	return long[:len(list)], long
}

// spoil writes into all memory of a list, also behind its end.
func spoil[T any](list []T, filling T) {
	list = list[:cap(list)]
	for i := range list {
		list[i] = filling
	}
}

// watch keeps all memory of some lists of numbers, to see whether it is changed.
type watch struct{ all, before [][]int }

// roomy returns a copy of a list with more memory behind its end, all of which is watched.
func (w *watch) roomy(list []int) []int {
	short, long := roomy(list, 77)
	w.all, w.before = append(w.all, long), append(w.before, slices.Clone(long))
	return short
}

// network returns a network all lists of which are watched.
func (w *watch) network(n api.Network) api.Network {
	var layers []api.Layer
	for _, l := range n.Layers {
		own := api.Layer{Bias: w.roomy(l.Bias)}
		for _, weights := range l.Weights {
			own.Weights = append(own.Weights, w.roomy(weights))
		}
		own.Weights, _ = roomy(own.Weights, nil)
		layers = append(layers, own)
	}
	n.Layers, _ = roomy(layers, api.Layer{})
	return n
}

// image returns an image whose values are watched.
func (w *watch) image(m api.Image) api.Image {
	m.Pix = w.roomy(m.Pix)
	return m
}

// isUnchanged fails the test if any of the memory was changed.
func (w *watch) isUnchanged(t *testing.T) {
	t.Helper()
	for i := range w.all {
		if !slices.Equal(w.all[i], w.before[i]) {
			t.Fatal("changed", w.before[i], w.all[i])
		}
	}
}

// P1 (R3): networks and images are only read, results share no memory with them, nor with one another, and nothing is kept from one call to the next.
func TestMemoryOfImages(t *testing.T) {
	d := newDice(60)
	for range 200 {
		var w watch
		n := w.network(d.network(d.from(1, 8), d.from(1, 8)))
		low, high := d.set(n.W, n.H, 20)
		lo, hi, c, splits := w.image(low), w.image(high), d.change(), d.from(0, 8)
		c.GainHi = min(400, c.GainLo+3)
		for range 2 {
			list, e := judge.Features(n, lo)
			if e != api.OK || !slices.Equal(list, featuresOf(n, low)) {
				t.Fatal("kept or shared", n, lo, list, e)
			}
			spoil(list, -1)
			isClassified(t, n, lo)
			isCertified(t, n, lo, hi, splits)
			below, above := spread(t, lo, c)
			want, greatest := spreadOf(low, c)
			spoil(below.Pix, -1)
			if !equal(above, greatest) {
				t.Fatal("shared", lo, c)
			}
			spoil(above.Pix, -1)
			below, _ = spread(t, lo, c)
			if !equal(below, want) {
				t.Fatal("kept", lo, c)
			}
		}
		w.isUnchanged(t)
	}
}

// P1 (R3): a change that changes nothing returns new images.
func TestMemoryOfSpread(t *testing.T) {
	m := row(1, 2, 3)
	lo, hi := spread(t, m, api.Change{GainLo: 100, GainHi: 100})
	lo.Pix[0], hi.Pix[1] = 9, 9
	if !equal(m, row(1, 2, 3)) || !equal(lo, row(9, 2, 3)) || !equal(hi, row(1, 9, 3)) {
		t.Error(m, lo, hi)
	}
}

// P1 (R3): scores are only read, also the memory behind them.
func TestMemoryOfScores(t *testing.T) {
	d := newDice(61)
	for range 300 {
		var w watch
		good, bad := w.roomy(d.numbers(d.from(0, 20), -50, 50)), w.roomy(d.numbers(d.from(0, 20), -50, 50))
		for range 2 {
			isThreshold(t, good, bad, 3, 2)
			isThreshold(t, good, nil, 3, 2)
			isThreshold(t, nil, bad, 3, 2)
		}
		w.isUnchanged(t)
	}
}

// P1 (R3): labels are only read, results share no memory with them, and nothing is kept from one call to the next.
func TestMemoryOfJuries(t *testing.T) {
	d := newDice(62)
	for range 300 {
		labels := d.jury(d.from(1, 8), d.from(0, 20))
		var own, all, before [][]uint8
		for _, list := range labels {
			short, long := roomy(list, 9)
			own, all, before = append(own, short), append(all, long), append(before, slices.Clone(long))
		}
		own, _ = roomy(own, nil)
		want, last, _ := reconciled(labels)
		for range 2 {
			verdicts, weights := reconcile(t, own)
			if !slices.Equal(verdicts, want) || !slices.Equal(weights, last) {
				t.Fatal("kept or shared", labels)
			}
			spoil(verdicts, 99)
			spoil(weights, -1)
		}
		for i := range all {
			if !slices.Equal(all[i], before[i]) {
				t.Fatal("changed", labels)
			}
		}
	}
}

// P1 (R4): nil and empty lists are the same.
func TestEmptyLists(t *testing.T) {
	for _, none := range [][]int{nil, {}} {
		if at, cost := isThreshold(t, none, none, 5, 6); at != 0 || cost != 0 {
			t.Error(at, cost)
		}
		isThreshold(t, none, []int{3}, 5, 6)
		isThreshold(t, []int{3}, none, 5, 6)
	}
	for _, labels := range [][][]uint8{{nil}, {{}}, {nil, {}}, {{}, nil, {}}} {
		if verdicts, weights := reconcile(t, labels); len(verdicts) != 0 || !slices.Equal(weights, make([]int, len(labels))) {
			t.Error(verdicts, weights)
		}
	}
}

// P1 (R7): no call panics, whatever the arguments are.
func TestExtremes(t *testing.T) {
	d := newDice(63)
	numbers := []int{least, least + 1, -1 << 32, -256, -2, -1, 0, 0, 0, 1, 1, 1, 2, 2, 3, 4, 8, 16, 17, 100, 101, 255, 256, 257, 400, 500, 501, 1000, 1000000, 1 << 30, 1 << 32, top, over - 1, over}
	n := func() int { return numbers[d.Intn(len(numbers))] }
	list := func() []int {
		l := make([]int, []int{0, 1, 2, 3, 8, 9, 100, 101}[d.Intn(8)])
		for i := range l {
			l[i] = n()
		}
		return l
	}
	layers := func() []api.Layer {
		var all []api.Layer
		for range d.Intn(5) {
			l := api.Layer{Bias: list()}
			for range d.Intn(10) {
				l.Weights = append(l.Weights, list())
			}
			all = append(all, l)
		}
		return all
	}
	chances, networks, images := append(badChances(), reduced(1, 2), reduced(1, 1<<30)), append(badNetworks(), plain(1), full(1), example()), append(badImages(), filled(3, 3, 0), filled(4, 6, 9), filled(16, 16, 255), row(3, 4))
	for range 20000 {
		net := networks[d.Intn(len(networks))]
		switch d.Intn(4) {
		case 0:
			net.Layers = layers()
		case 1:
			net.W, net.H, net.GX, net.GY = n(), n(), n(), n()
		case 2:
			net.Low, net.High = n(), n()
		}
		m, l, chance := images[d.Intn(len(images))], images[d.Intn(len(images))], chances[d.Intn(len(chances))]
		judge.CheckNetwork(net)
		judge.Features(net, m)
		judge.Classify(net, m)
		judge.Certify(net, m, l, n())
		judge.Spread(m, api.Change{Shift: n(), GainLo: n(), GainHi: n(), Offset: n(), Noise: n()})
		judge.Threshold(list(), list(), n(), n())
		judge.AtMost(n(), n(), n(), chance)
		judge.Bound(n(), n(), chance)
		labels := make([][]uint8, d.Intn(10))
		for i := range labels {
			labels[i] = []uint8{uint8(d.Intn(3)), uint8(d.Intn(4))}[:d.from(1, 2)]
		}
		judge.Reconcile(labels)
		test := api.Test{P: n(), Q: n(), Alpha: chance}
		judge.CheckTest(test)
		judge.Take(test, api.Drift{Hits: n(), Rounds: n(), Alarm: d.Intn(2) == 0}, d.Intn(2) == 0)
	}
}
