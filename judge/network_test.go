package judge_test

import (
	"slices"
	"testing"

	"sightbench/api"
	"sightbench/judge"
)

// isClassified fails the test unless an image has the features, the score and the verdict that the document says.
func isClassified(t *testing.T, n api.Network, m api.Image) (int, uint8) {
	t.Helper()
	want := featuresOf(n, m)
	list, e := judge.Features(n, m)
	if e != api.OK || !slices.Equal(list, want) {
		t.Fatal(n, m, list, e, want)
	}
	score, v, e := judge.Classify(n, m)
	if e != api.OK || score != scoreOf(n, want) || v != verdictOf(n, score) {
		t.Fatal(n, m, score, v, e, scoreOf(n, want))
	}
	return score, v
}

// P8.1: the document's examples.
func TestClassifyExamples(t *testing.T) {
	n := example()
	if e := judge.CheckNetwork(n); e != api.OK {
		t.Fatal(e)
	}
	list, e := judge.Features(n, row(200, 185))
	if e != api.OK || !slices.Equal(list, []int{200, 185}) {
		t.Error(list, e)
	}
	for _, x := range []struct {
		m     api.Image
		score int
		v     uint8
	}{{row(200, 185), 15, api.Undecided}, {row(200, 190), 10, api.Fail}, {row(0, 255), 255, api.Pass}, {row(20, 0), 20, api.Pass}, {row(0, 19), 19, api.Undecided}, {row(11, 0), 11, api.Undecided}, {row(7, 7), 0, api.Fail}} {
		if score, v, e := judge.Classify(n, x.m); score != x.score || v != x.v || e != api.OK {
			t.Error(x.m, score, v, e)
		}
	}
}

// P8.1: features by hand, where columns and rows differ.
func TestFeatures(t *testing.T) {
	n := sized(4, 3, 2, 3, 1)
	m := api.Image{W: 4, H: 3, Pix: []int{1, 2, 3, 4, 10, 20, 30, 40, 100, 101, 102, 255}}
	if list, e := judge.Features(n, m); e != api.OK || !slices.Equal(list, []int{3, 7, 30, 70, 201, 357}) {
		t.Error(list, e)
	}
	n = sized(4, 3, 4, 1, 1)
	if list, e := judge.Features(n, m); e != api.OK || !slices.Equal(list, []int{111, 123, 135, 299}) {
		t.Error(list, e)
	}
	n = sized(16, 16, 1, 1, 1)
	if list, e := judge.Features(n, filled(16, 16, 255)); e != api.OK || !slices.Equal(list, []int{65280}) {
		t.Error(list, e)
	}
}

// P8.1: the last layer may be below 0, the others are not.
func TestBelowZero(t *testing.T) {
	n := api.Network{W: 1, H: 1, GX: 1, GY: 1, Low: -8, High: -3, Layers: []api.Layer{{Weights: [][]int{{-1}}, Bias: []int{2}}}}
	for value, want := range []uint8{1, 1, 1, 1, 1, 1, 3, 3, 3, 3, 2, 2} {
		if score, v := isClassified(t, n, row(value)); score != 2-value || v != want {
			t.Error(value, score, v)
		}
	}
	n.Layers = append(n.Layers, api.Layer{Weights: [][]int{{-4}}, Bias: []int{0}})
	for value, want := range []int{-8, -4, 0, 0, 0} {
		if score, _ := isClassified(t, n, row(value)); score != want {
			t.Error(value, score)
		}
	}
	n.Layers = append(n.Layers, api.Layer{Weights: [][]int{{7}}, Bias: []int{-1}})
	for value := range 5 {
		if score, _ := isClassified(t, n, row(value)); score != -1 {
			t.Error(value, score)
		}
	}
}

// P8.1: random networks and images of all sizes.
func TestClassify(t *testing.T) {
	d := newDice(1)
	var verdicts [4]int
	for w := 1; w <= 16; w++ {
		for h := 1; h <= 16; h++ {
			for range 4 {
				n := d.network(w, h)
				for range 3 {
					_, v := isClassified(t, n, d.image(w, h))
					verdicts[v]++
				}
				isClassified(t, n, filled(w, h, 0))
				isClassified(t, n, filled(w, h, 255))
			}
		}
	}
	if min(verdicts[1], verdicts[2], verdicts[3]) < 200 {
		t.Error(verdicts)
	}
}

// full returns the network with the greatest numbers of either sign, and as many of them as there may be.
func full(sign int) api.Network {
	n := sized(16, 16, 4, 4, 8, 8, 1)
	for i, layer := range n.Layers {
		s := 1
		if i == 2 {
			s = sign
		}
		for j := range layer.Bias {
			layer.Bias[j] = s * 1000000
			for k := range layer.Weights[j] {
				layer.Weights[j][k] = s * 1000
			}
		}
	}
	n.Low, n.High = -top, top
	return n
}

// P8.1, P1 (R5): limits that are just valid; nothing overflows.
func TestLargeNetworks(t *testing.T) {
	first := 65280*1000 + 1000000
	second := 8*first*1000 + 1000000
	third := 8*second*1000 + 1000000
	for _, sign := range []int{-1, 1} {
		n := full(sign)
		if e := judge.CheckNetwork(n); e != api.OK {
			t.Fatal(e)
		}
		if score, v := isClassified(t, n, filled(16, 16, 255)); score != sign*third || v != api.Undecided {
			t.Error(score, v)
		}
		n.Low, n.High = sign*third, sign*third+1
		if _, v := isClassified(t, n, filled(16, 16, 255)); v != api.Fail {
			t.Error(v)
		}
		n.Low, n.High = sign*third-1, sign*third
		if _, v := isClassified(t, n, filled(16, 16, 255)); v != api.Pass {
			t.Error(v)
		}
	}
	for _, n := range []api.Network{plain(1), plain(8, 1), plain(1, 8, 1), plain(3, 4, 1), sized(1, 1, 1, 1, 1), sized(16, 16, 1, 1, 1), sized(12, 9, 3, 3, 1), sized(3, 4, 3, 4, 1), sized(4, 3, 4, 3, 1)} {
		if e := judge.CheckNetwork(n); e != api.OK {
			t.Error(n, e)
		}
	}
}

// P8.1, P8.3: networks that are not valid, with anything else.
func TestBadNetworks(t *testing.T) {
	for i, n := range badNetworks() {
		if e := judge.CheckNetwork(n); e != api.ErrNetwork {
			t.Error(i, n, e)
		}
		for _, m := range []api.Image{filled(4, 6, 9), filled(1, 1, 9), {W: 4, H: 6}, filled(4, 6, 256)} {
			list, e := judge.Features(n, m)
			fails(t, "Features", len(list) == 0, e, api.ErrNetwork)
			score, v, e := judge.Classify(n, m)
			fails(t, "Classify", score == 0 && v == 0, e, api.ErrNetwork)
			v, e = judge.Certify(n, m, m, 9)
			fails(t, "Certify", v == 0, e, api.ErrNetwork)
		}
	}
}

// P8.1: images that are none of a camera, and those of another size.
func TestClassifyErrors(t *testing.T) {
	check := func(n api.Network, m api.Image, want api.Errno) {
		t.Helper()
		list, e := judge.Features(n, m)
		fails(t, "Features", len(list) == 0, e, want)
		score, v, e := judge.Classify(n, m)
		fails(t, "Classify", score == 0 && v == 0, e, want)
	}
	n := sized(3, 3, 1, 3, 2, 1)
	for _, m := range badImages() {
		check(n, m, api.ErrImage)
		check(example(), m, api.ErrImage)
	}
	for _, m := range []api.Image{filled(3, 2, 0), filled(2, 3, 0), filled(1, 9, 0), filled(9, 1, 0), filled(4, 3, 0), filled(3, 4, 0), filled(1, 1, 0), filled(16, 16, 255)} {
		check(n, m, api.ErrSize)
	}
	check(plain(2, 1), filled(6, 4, 0), api.ErrSize)
}
