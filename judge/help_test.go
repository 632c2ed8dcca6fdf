package judge_test

import (
	"math/big"
	"math/rand"
	"slices"
	"testing"

	"sightbench/api"
)

const (
	least = -1 << 63
	over  = 1<<63 - 1
	top   = 1 << 60 // of a score
)

// featuresOf returns the features of an image: each pixel adds to that of its cell.
func featuresOf(n api.Network, m api.Image) []int {
	list := make([]int, n.GX*n.GY)
	for y := range m.H {
		for x := range m.W {
			list[y*n.GY/n.H*n.GX+x*n.GX/n.W] += m.Pix[y*m.W+x]
		}
	}
	return list
}

// numberOf returns the number j of the layer i, where the layer -1 has the features.
func numberOf(n api.Network, list []int, i, j int) int {
	if i < 0 {
		return list[j]
	}
	layer := n.Layers[i]
	sum := layer.Bias[j]
	for k, w := range layer.Weights[j] {
		sum += w * numberOf(n, list, i-1, k)
	}
	if sum < 0 && i+1 < len(n.Layers) {
		return 0
	}
	return sum
}

// boundOf returns the lower bound (side 0) or the upper bound (side 1) of the number j of the layer i.
func boundOf(n api.Network, sides [2][]int, i, j, side int) int {
	if i < 0 {
		return sides[side][j]
	}
	layer := n.Layers[i]
	sum := layer.Bias[j]
	for k, w := range layer.Weights[j] {
		if w >= 0 {
			sum += w * boundOf(n, sides, i-1, k, side)
		} else {
			sum += w * boundOf(n, sides, i-1, k, 1-side)
		}
	}
	if sum < 0 && i+1 < len(n.Layers) {
		return 0
	}
	return sum
}

// scoreOf returns the score for some features.
func scoreOf(n api.Network, list []int) int { return numberOf(n, list, len(n.Layers)-1, 0) }

// verdictOf returns the verdict of a score.
func verdictOf(n api.Network, score int) uint8 {
	if score >= n.High {
		return 1
	}
	if score <= n.Low {
		return 2
	}
	return 3
}

// boxed is bounds of features, and how often they may still be divided.
type boxed struct {
	sides  [2][]int
	splits int
}

// certificateOf returns the certificate for bounds: that of all the parts that are not divided any more, if they have the same one.
func certificateOf(n api.Network, lo, hi []int, splits int) uint8 {
	pile := []boxed{{[2][]int{lo, hi}, splits}}
	found := map[uint8]bool{}
	for len(pile) > 0 {
		b := pile[len(pile)-1]
		pile = pile[:len(pile)-1]
		below := verdictOf(n, boundOf(n, b.sides, len(n.Layers)-1, 0, 0))
		above := verdictOf(n, boundOf(n, b.sides, len(n.Layers)-1, 0, 1))
		switch {
		case below == above && below != 3:
			found[below] = true
		case b.splits == 0 || slices.Equal(b.sides[0], b.sides[1]):
			found[3] = true
		default:
			pile = append(pile, halvesOf(b)...)
		}
	}
	if len(found) > 1 {
		return 3
	}
	for v := range found {
		return v
	}
	return 0
}

// halvesOf returns the two parts of bounds that are divided.
func halvesOf(b boxed) []boxed {
	at, width := 0, -1
	for i := range b.sides[0] {
		if d := b.sides[1][i] - b.sides[0][i]; d > width {
			at, width = i, d
		}
	}
	below, above := slices.Clone(b.sides[1]), slices.Clone(b.sides[0])
	below[at] = b.sides[0][at] + width/2
	above[at] = below[at] + 1
	return []boxed{{[2][]int{b.sides[0], below}, b.splits - 1}, {[2][]int{above, b.sides[1]}, b.splits - 1}}
}

// valueAt returns the value of an image at a place, or of the nearest pixel.
func valueAt(m api.Image, x, y int) int {
	return m.Pix[min(max(y, 0), m.H-1)*m.W+min(max(x, 0), m.W-1)]
}

// litOf returns the value of a pixel of an image changed by a shift, a gain, and a number that is added.
func litOf(m api.Image, x, y, dx, dy, gain, off int) int {
	return min(255, max(0, gain*valueAt(m, x+dx, y+dy)/100+off))
}

// spreadOf returns the images of the least and the greatest values, among those of all shifts and gains, with the greatest numbers that are added or taken off.
func spreadOf(m api.Image, c api.Change) (api.Image, api.Image) {
	lo, hi := filled(m.W, m.H, 255), filled(m.W, m.H, 0)
	for i := range m.Pix {
		for dx := -c.Shift; dx <= c.Shift; dx++ {
			for dy := -c.Shift; dy <= c.Shift; dy++ {
				for gain := c.GainLo; gain <= c.GainHi; gain++ {
					for _, off := range []int{-c.Offset - c.Noise, c.Offset + c.Noise} {
						v := litOf(m, i%m.W, i/m.W, dx, dy, gain, off)
						lo.Pix[i], hi.Pix[i] = min(lo.Pix[i], v), max(hi.Pix[i], v)
					}
				}
			}
		}
	}
	return lo, hi
}

// costOf returns the cost of a threshold.
func costOf(good, bad []int, miss, alarm, threshold int) int {
	sum := 0
	for _, s := range good {
		if s < threshold {
			sum += alarm
		}
	}
	for _, s := range bad {
		if s >= threshold {
			sum += miss
		}
	}
	return sum
}

// thresholdOf returns the threshold with the least cost, and that cost: thresholds are tried from the least one on.
func thresholdOf(good, bad []int, miss, alarm int) (int, int) {
	list := append(slices.Clone(good), bad...)
	if len(list) == 0 {
		return 0, 0
	}
	slices.Sort(list)
	list = append(list, list[len(list)-1]+1)
	at, cost := list[0], costOf(good, bad, miss, alarm, list[0])
	for _, s := range list {
		if c := costOf(good, bad, miss, alarm, s); c < cost {
			at, cost = s, c
		}
	}
	return at, cost
}

// power returns n^e.
func power(n, e int) *big.Int {
	return new(big.Int).Exp(big.NewInt(int64(n)), big.NewInt(int64(e)), nil)
}

// product returns the product of some numbers.
func product(list ...*big.Int) *big.Int {
	p := big.NewInt(1)
	for _, x := range list {
		p.Mul(p, x)
	}
	return p
}

// chances returns for each k the chance of at most k of n, for the rate j / 256.
func chances(n, j int) []*big.Rat {
	var list []*big.Rat
	sum := new(big.Int)
	for i := range n + 1 {
		sum.Add(sum, product(new(big.Int).Binomial(int64(n), int64(i)), power(j, i), power(256-j, n-i)))
		list = append(list, new(big.Rat).SetFrac(new(big.Int).Set(sum), power(256, n)))
	}
	return list
}

// rat returns the value of a fraction.
func rat(a api.Frac) *big.Rat { return big.NewRat(int64(a.Num), int64(a.Den)) }

// reduced returns a fraction in lowest terms.
func reduced(num, den int) api.Frac {
	r := big.NewRat(int64(num), int64(den))
	return api.Frac{Num: int(r.Num().Int64()), Den: int(r.Denom().Int64())}
}

// votesOf returns the verdicts of the vote with weights.
func votesOf(labels [][]uint8, weights []int) []uint8 {
	verdicts := []uint8{}
	for part := range labels[0] {
		balance := 0
		for i := range labels {
			switch labels[i][part] {
			case 1:
				balance += weights[i]
			case 2:
				balance -= weights[i]
			}
		}
		verdicts = append(verdicts, map[bool]uint8{true: 1}[balance > 0]+map[bool]uint8{true: 2}[balance < 0]+map[bool]uint8{true: 3}[balance == 0])
	}
	return verdicts
}

// reconciled returns the verdicts and the weights, and how often the weights were made.
func reconciled(labels [][]uint8) ([]uint8, []int, int) {
	weights := make([]int, len(labels))
	for i := range weights {
		weights[i] = 1
	}
	verdicts := votesOf(labels, weights)
	for times := 1; ; times++ {
		weights = make([]int, len(labels))
		for i := range labels {
			right, wrong := 0, 0
			for part, v := range verdicts {
				if v != 3 && labels[i][part] == v {
					right++
				}
				if v != 3 && labels[i][part] == 3-v {
					wrong++
				}
			}
			if right > wrong {
				weights[i] = right - wrong
			}
		}
		again := votesOf(labels, weights)
		if slices.Equal(again, verdicts) || times == 10 {
			return again, weights, times
		}
		verdicts = again
	}
}

// isRaised reports whether a test raises the alarm with h hits in n rounds.
func isRaised(t api.Test, h, n int) bool {
	left := product(power(t.Q, h), power(256-t.Q, n-h), big.NewInt(int64(t.Alpha.Num)))
	right := product(power(t.P, h), power(256-t.P, n-h), big.NewInt(int64(t.Alpha.Den)))
	return left.Cmp(right) >= 0
}

// dice makes random values.
type dice struct{ *rand.Rand }

func newDice(seed int64) dice { return dice{rand.New(rand.NewSource(seed))} }

// from returns a number from lo to hi.
func (d dice) from(lo, hi int) int { return lo + d.Intn(hi-lo+1) }

// numbers returns n numbers from lo to hi.
func (d dice) numbers(n, lo, hi int) []int {
	list := make([]int, n)
	for i := range list {
		list[i] = d.from(lo, hi)
	}
	return list
}

// image returns a camera image.
func (d dice) image(w, h int) api.Image {
	return api.Image{W: w, H: h, Pix: d.numbers(w*h, 0, 255)}
}

// set returns two camera images that give a set, no value of which has more than so many others.
func (d dice) set(w, h, wide int) (api.Image, api.Image) {
	lo := d.image(w, h)
	hi := api.Image{W: w, H: h, Pix: slices.Clone(lo.Pix)}
	for i := range hi.Pix {
		hi.Pix[i] = min(255, hi.Pix[i]+d.from(0, wide))
	}
	return lo, hi
}

// within returns an image of a set.
func (d dice) within(lo, hi api.Image) api.Image {
	m := api.Image{W: lo.W, H: lo.H, Pix: slices.Clone(lo.Pix)}
	kind := d.Intn(3)
	for i := range m.Pix {
		if kind == 0 {
			m.Pix[i] = d.from(lo.Pix[i], hi.Pix[i])
		} else if d.Intn(2) == 0 {
			m.Pix[i] = hi.Pix[i]
		}
	}
	return m
}

// layer returns a layer of n numbers.
func (d dice) layer(n, before int) api.Layer {
	l := api.Layer{Bias: d.numbers(n, -500, 500)}
	most := []int{1, 3, 20, 1000}[d.Intn(4)]
	for range n {
		l.Weights = append(l.Weights, d.numbers(before, -most, most))
	}
	return l
}

// network returns a valid network with a limit at each of two scores that it has.
func (d dice) network(w, h int) api.Network {
	n := api.Network{W: w, H: h, GX: 1, GY: 1}
	for n.GX, n.GY = d.from(1, 4), d.from(1, 4); w%n.GX != 0 || h%n.GY != 0; n.GX, n.GY = d.from(1, 4), d.from(1, 4) {
	}
	before := n.GX * n.GY
	for range d.Intn(3) {
		size := d.from(1, []int{2, 4, 8}[d.Intn(3)])
		n.Layers = append(n.Layers, d.layer(size, before))
		before = size
	}
	n.Layers = append(n.Layers, d.layer(1, before))
	a, b := scoreOf(n, featuresOf(n, d.image(w, h))), scoreOf(n, featuresOf(n, d.image(w, h)))
	n.Low, n.High = min(a, b), max(a, b)
	if a == b {
		n.High++
	}
	return n
}

// change returns a valid change, mostly a small one.
func (d dice) change() api.Change {
	c := api.Change{Shift: d.from(0, 2), Offset: d.from(0, 8), Noise: d.from(0, 8)}
	most := 400
	if d.Intn(2) == 0 {
		most = 120
	}
	c.GainLo = d.from(0, most)
	c.GainHi = d.from(c.GainLo, most)
	if d.Intn(5) == 0 {
		c.Offset, c.Noise = d.from(0, 255), d.from(0, 255)
	}
	return c
}

// chance returns a fraction above 0 and less than 1.
func (d dice) chance() api.Frac {
	den := d.from(2, []int{10, 1000, 1 << 30}[d.Intn(3)])
	return reduced(d.from(1, den-1), den)
}

// test returns a valid sequential test.
func (d dice) test() api.Test {
	p := d.from(1, 254)
	return api.Test{P: p, Q: d.from(p+1, 255), Alpha: d.chance()}
}

// jury returns the labels of some inspectors, some of whom mostly say the truth.
func (d dice) jury(inspectors, parts int) [][]uint8 {
	truth := d.numbers(parts, 1, 2)
	var labels [][]uint8
	for range inspectors {
		list := []uint8{}
		bad, silent := d.Intn(100), d.Intn(60)
		for _, v := range truth {
			if d.Intn(100) < bad {
				v = d.from(1, 2)
			}
			if d.Intn(100) < silent {
				v = 0
			}
			list = append(list, uint8(v))
		}
		labels = append(labels, list)
	}
	return labels
}

// example returns the network of the document's examples.
func example() api.Network {
	return api.Network{W: 2, H: 1, GX: 2, GY: 1, Low: 10, High: 20, Layers: []api.Layer{
		{Weights: [][]int{{1, -1}, {-1, 1}}, Bias: []int{0, 0}},
		{Weights: [][]int{{1, 1}}, Bias: []int{0}},
	}}
}

// row returns the image of one row.
func row(pix ...int) api.Image { return api.Image{W: len(pix), H: 1, Pix: pix} }

// filled returns an image of one value.
func filled(w, h, value int) api.Image {
	return api.Image{W: w, H: h, Pix: slices.Repeat([]int{value}, w*h)}
}

// equal reports whether two images are the same.
func equal(a, b api.Image) bool { return a.W == b.W && a.H == b.H && slices.Equal(a.Pix, b.Pix) }

// isNothing reports whether an image is the zero value.
func isNothing(m api.Image) bool { return m.W == 0 && m.H == 0 && len(m.Pix) == 0 }

// badImages returns images that are none of a camera.
func badImages() []api.Image {
	list := []api.Image{
		{}, {W: 3, H: 3}, {W: 3, H: 3, Pix: make([]int, 8)}, {W: 3, H: 3, Pix: make([]int, 10)}, {W: -3, H: -3, Pix: make([]int, 9)}, {W: 0, H: 3}, {W: 3, H: 0},
		{W: 17, H: 1, Pix: make([]int, 17)}, {W: 1, H: 17, Pix: make([]int, 17)}, {W: over, H: over, Pix: make([]int, 1)}, {W: least, H: least}, {W: 1 << 32, H: 1 << 32},
	}
	for _, v := range []int{-1, 256, 257, -256, api.MaxPix, -api.MaxPix, api.MaxPix + 1, least, over} {
		for _, i := range []int{0, 4, 8} {
			m := filled(3, 3, 0)
			m.Pix[i] = v
			list = append(list, m)
		}
	}
	return list
}

// sized returns a network with so many cells, and so many numbers in each of its layers; all of them are 0.
func sized(w, h, gx, gy int, sizes ...int) api.Network {
	n := api.Network{W: w, H: h, GX: gx, GY: gy, High: 1}
	before := min(max(gx*gy, 0), 100)
	for _, size := range sizes {
		l := api.Layer{Bias: make([]int, size)}
		for range size {
			l.Weights = append(l.Weights, make([]int, before))
		}
		n.Layers = append(n.Layers, l)
		before = size
	}
	return n
}

// plain returns a network for images of 4 * 6 pixels, with 2 * 3 cells.
func plain(sizes ...int) api.Network { return sized(4, 6, 2, 3, sizes...) }

// badNetworks returns networks that are not valid, in one thing each.
func badNetworks() []api.Network {
	list := []api.Network{
		{}, plain(), sized(4, 6, 1, 1), plain(2), plain(2, 2), plain(0), plain(0, 1), plain(1, 0), plain(9, 1), plain(2, 9, 1), plain(1, 1, 1, 1),
		sized(0, 1, 1, 1, 1), sized(1, 0, 1, 1, 1), sized(17, 1, 1, 1, 1), sized(1, 17, 1, 1, 1), sized(20, 1, 4, 1, 1), sized(1, 20, 1, 4, 1),
		sized(-4, 1, 1, 1, 1), sized(1, -4, 1, 1, 1), sized(0, 1, 4, 1, 1), sized(1, 0, 1, 4, 1),
		sized(4, 1, 0, 1, 1), sized(1, 4, 1, 0, 1), sized(4, 1, -1, 1, 1), sized(1, 4, 1, -1, 1), sized(4, 4, -2, -2, 1),
		sized(15, 1, 5, 1, 1), sized(1, 15, 1, 5, 1), sized(16, 1, 8, 1, 1), sized(1, 16, 1, 16, 1),
		sized(15, 1, 2, 1, 1), sized(1, 15, 1, 2, 1), sized(16, 1, 3, 1, 1), sized(1, 16, 1, 3, 1), sized(1, 4, 2, 1, 1), sized(4, 1, 1, 2, 1),
	}
	for _, v := range beyond(1, 16) {
		list = append(list, sized(v, 6, 1, 3, 1), sized(4, v, 2, 1, 1), sized(16, 16, v, 1, 1), sized(16, 16, 1, v, 1))
	}
	add := func(change func(n *api.Network)) {
		n := plain(2, 3, 1)
		change(&n)
		list = append(list, n)
	}
	add(func(n *api.Network) { n.Low, n.High = 1, 1 })
	add(func(n *api.Network) { n.Low, n.High = 2, 1 })
	add(func(n *api.Network) { n.Low, n.High = over, least })
	for _, v := range beyond(-top, top) {
		add(func(n *api.Network) { n.Low, n.High = min(v, 0), max(v, 1) })
	}
	for i, last := range []int{1, 2, 0} {
		for _, v := range beyond(-1000000, 1000000) {
			add(func(n *api.Network) { n.Layers[i].Bias[last] = v })
		}
		for _, v := range beyond(-1000, 1000) {
			add(func(n *api.Network) { n.Layers[i].Weights[last][1] = v })
			add(func(n *api.Network) { n.Layers[i].Weights[0][0] = v })
		}
		add(func(n *api.Network) { n.Layers[i].Weights = nil })
		add(func(n *api.Network) { n.Layers[i].Bias = nil })
		add(func(n *api.Network) { n.Layers[i].Weights = n.Layers[i].Weights[:last] })
		add(func(n *api.Network) { n.Layers[i].Bias = n.Layers[i].Bias[:last] })
		add(func(n *api.Network) { n.Layers[i].Weights = append(n.Layers[i].Weights, n.Layers[i].Weights[0]) })
		add(func(n *api.Network) { n.Layers[i].Bias = append(n.Layers[i].Bias, 0) })
		add(func(n *api.Network) { n.Layers[i].Weights[last] = nil })
		add(func(n *api.Network) { n.Layers[i].Weights[last] = n.Layers[i].Weights[last][1:] })
		add(func(n *api.Network) { n.Layers[i].Weights[0] = append(n.Layers[i].Weights[0], 0) })
	}
	return list
}

// badChanges returns changes that are not valid.
func badChanges() []api.Change {
	list := []api.Change{{GainLo: 2, GainHi: 1}, {GainLo: 400, GainHi: 399}, {GainLo: over, GainHi: over}, {GainLo: least, GainHi: least}}
	for _, v := range beyond(0, 2) {
		list = append(list, api.Change{Shift: v})
	}
	for _, v := range beyond(0, 400) {
		list = append(list, api.Change{GainLo: min(v, 0), GainHi: max(v, 0)})
	}
	for _, v := range beyond(0, 255) {
		list = append(list, api.Change{Offset: v}, api.Change{Noise: v})
	}
	return list
}

// badChances returns fractions that bound no chance.
func badChances() []api.Frac {
	list := []api.Frac{
		{}, {Num: 1}, {Den: 1}, {Num: 1, Den: 1}, {Num: 2, Den: 1}, {Num: 3, Den: 2}, {Num: -1, Den: 2}, {Num: 1, Den: -2}, {Num: -1, Den: -2}, {Num: 2, Den: 4}, {Num: 0, Den: 2},
		{Num: 1, Den: 1<<30 + 1}, {Num: 1 << 30, Den: 1<<30 + 1}, {Num: 1, Den: api.MaxPart}, {Num: 1, Den: over}, {Num: 1, Den: least}, {Num: over, Den: 2}, {Num: least, Den: 2}, {Num: least, Den: least},
	}
	return list
}

// badTests returns sequential tests that are not valid.
func badTests() []api.Test {
	half := api.Frac{Num: 1, Den: 2}
	list := []api.Test{{}, {P: 5, Q: 5, Alpha: half}, {P: 6, Q: 5, Alpha: half}, {P: 255, Q: 255, Alpha: half}, {P: 255, Q: 1, Alpha: half}, {P: over, Q: least, Alpha: half}}
	for _, v := range beyond(1, 254) {
		list = append(list, api.Test{P: v, Q: 255, Alpha: half})
	}
	for _, v := range beyond(2, 255) {
		list = append(list, api.Test{P: 1, Q: v, Alpha: half})
	}
	for _, a := range badChances() {
		list = append(list, api.Test{P: 64, Q: 128, Alpha: a})
	}
	return list
}

// badDrifts returns states of a test that are not valid.
func badDrifts() []api.Drift {
	list := []api.Drift{{Hits: 1}, {Hits: 5, Rounds: 4}, {Hits: -1, Rounds: 4}, {Hits: -2, Rounds: -1}, {Hits: -1, Rounds: -1}, {Hits: 501, Rounds: 500}, {Hits: 501, Rounds: 501}, {Hits: over, Rounds: over}, {Hits: least, Rounds: over}}
	for _, v := range beyond(0, 500) {
		list = append(list, api.Drift{Rounds: v}, api.Drift{Hits: v, Rounds: 500}, api.Drift{Hits: 0, Rounds: v, Alarm: true})
	}
	return list
}

// beyond returns numbers outside of the range from lo to hi.
func beyond(lo, hi int) []int {
	return []int{lo - 1, lo - 2, hi + 1, hi + 2, -1 << 62, 1 << 62, least, least + 1, over - 1, over}
}

// fails fails the test unless a call returned that error and zero values.
func fails(t *testing.T, name string, zero bool, e, want api.Errno) {
	t.Helper()
	if !zero || e != want {
		t.Errorf("%s: %v with zero values (%v) instead of %v", name, e, zero, want)
	}
}
