package pipe_test

import (
	"math/big"
	"slices"
	"testing"

	"sightbench/api"
	"sightbench/pipe"
)

func load(d, value int, at ...int) api.Instr {
	return api.Instr{Op: api.CodeLoad, D: d, Value: value, At: at}
}

func store(a int, at ...int) api.Instr { return api.Instr{Op: api.CodeStore, A: a, At: at} }

func set(d, value int) api.Instr { return api.Instr{Op: api.CodeSet, D: d, Value: value} }

func pointed(d, a int, p api.Point) api.Instr {
	return api.Instr{Op: api.CodePoint, D: d, A: a, Point: p}
}

func zipped(d, a, b int, how uint8) api.Instr {
	return api.Instr{Op: api.CodeZip, D: d, A: a, B: b, How: how}
}

func added(d, a, value int) api.Instr {
	return api.Instr{Op: api.CodeAdd, D: d, A: a, Value: value}
}

// pair is code for images of 2 * 1 pixels, one of which is placed from 0 on; the result is taken from 2 on.
func pair(list ...api.Instr) api.Code {
	return api.Code{W: 2, H: 1, Inputs: []int{0}, Output: 2, Instr: list}
}

// twoLanes is a machine for pair.
func twoLanes() api.Vector { return vector(2, 3, 6) }

func invalidVectors() []api.Vector {
	list := []api.Vector{{}}
	for _, n := range []int{0, -1, 17, least, over, 1<<32 + 4} {
		list = append(list, vector(n, 2, 100), vector(4, n, 100))
	}
	for _, n := range []int{0, -1, 8193, least, over, 1<<32 + 100} {
		list = append(list, vector(4, 2, n))
	}
	return append(list, vector(4, 1, 100))
}

// P3.3
func TestCheckCodeVectors(t *testing.T) {
	good := api.Code{W: 1, H: 1}
	for _, v := range []api.Vector{vector(1, 2, 1), vector(16, 16, 8192), vector(16, 2, 1), vector(1, 16, 8192)} {
		if e := pipe.CheckCode(v, good); e != api.OK {
			t.Errorf("%v: %v", v, e)
		}
	}
	for _, v := range invalidVectors() {
		for _, c := range []api.Code{good, {}} {
			if e := pipe.CheckCode(v, c); e != api.ErrVector {
				t.Errorf("%v: %v", v, e)
			}
		}
	}
}

// P3.3: fields that an instruction does not need may be anything.
func TestCheckCode(t *testing.T) {
	p, at := point(1, 0, 1, 0, 0), []int{over, least}
	anything := api.Instr{D: -1, A: 99, B: least, Value: over, Point: api.Point{}, How: 99, At: at}
	change := func(f func(i *api.Instr)) api.Instr {
		i := anything
		f(&i)
		return i
	}
	list := []api.Instr{
		change(func(i *api.Instr) { i.Op, i.D, i.Value, i.At = api.CodeLoad, 2, -most, []int{-1, 5} }),
		change(func(i *api.Instr) { i.Op, i.D, i.Value, i.At = api.CodeLoad, 0, most, []int{0, 0} }),
		change(func(i *api.Instr) { i.Op, i.A, i.At = api.CodeStore, 2, []int{5, 5} }),
		change(func(i *api.Instr) { i.Op, i.A, i.At = api.CodeStore, 0, []int{-1, -1} }),
		change(func(i *api.Instr) { i.Op, i.D, i.Value = api.CodeSet, 2, most }),
		change(func(i *api.Instr) { i.Op, i.D, i.Value = api.CodeSet, 0, -most }),
		change(func(i *api.Instr) { i.Op, i.D, i.A, i.Point = api.CodePoint, 2, 0, p }),
		change(func(i *api.Instr) { i.Op, i.D, i.A, i.Point = api.CodePoint, 0, 2, p }),
		change(func(i *api.Instr) { i.Op, i.D, i.A, i.B, i.How = api.CodeZip, 2, 0, 1, 1 }),
		change(func(i *api.Instr) { i.Op, i.D, i.A, i.B, i.How = api.CodeZip, 0, 2, 2, 6 }),
		change(func(i *api.Instr) { i.Op, i.D, i.A, i.Value = api.CodeAdd, 2, 0, factor }),
		change(func(i *api.Instr) { i.Op, i.D, i.A, i.Value = api.CodeAdd, 0, 2, -factor }),
	}
	for i, instr := range list {
		if e := pipe.CheckCode(twoLanes(), pair(instr)); e != api.OK {
			t.Errorf("%d: %v", i, e)
		}
	}
	for i, c := range []api.Code{
		pair(list...),
		pair(),
		pair(slices.Repeat(list[4:5], 200000)...),
		{W: 2, H: 3, Inputs: []int{0, 0, -1}},
		{W: 2, H: 2, Inputs: []int{2, 1}, Output: 2},
		{W: 3, H: 1, Inputs: []int{3, -1, 1}, Output: 3},
		{W: 1, H: 6, Output: 0},
		{W: 6, H: 1, Inputs: []int{}},
	} {
		if e := pipe.CheckCode(twoLanes(), c); e != api.OK {
			t.Errorf("%d: %v", i, e)
		}
	}
	if e := pipe.CheckCode(vector(16, 2, 8192), api.Code{W: 16, H: 16, Inputs: []int{8192 - 256}, Output: 8192 - 256}); e != api.OK {
		t.Error(e)
	}
}

// invalidInstrs returns instructions that are not valid for twoLanes, for one reason each.
func invalidInstrs() []api.Instr {
	p := point(1, 0, 1, 0, 0)
	var list []api.Instr
	for _, n := range []int{-1, 3, 16, least, over, 1 << 32} {
		list = append(list, load(n, 0, 0, 0), store(n, 0, 0), set(n, 0), pointed(n, 0, p), pointed(0, n, p), zipped(n, 0, 0, 1), zipped(0, n, 0, 1), zipped(0, 0, n, 1), added(n, 0, 0), added(0, n, 0))
	}
	for _, n := range []int{most + 1, -most - 1, least, over} {
		list = append(list, load(0, n, 0, 0), load(0, n, -1, -1), set(0, n))
	}
	for _, n := range []int{factor + 1, -factor - 1, most, least, over} {
		list = append(list, added(0, 0, n))
	}
	for _, n := range []int{-2, 6, 8192, least, over, 1 << 32} {
		list = append(list, load(0, 0, n, 0), load(0, 0, 0, n), store(0, n, 0), store(0, 0, n))
	}
	for _, at := range [][]int{nil, {}, {0}, {0, 0, 0}, make([]int, 16), make([]int, 1, 2)} {
		list = append(list, load(0, 0, at...), store(0, at...))
	}
	for _, x := range invalidPoints() {
		list = append(list, pointed(0, 0, x))
	}
	for _, how := range []uint8{0, 7, 255} {
		list = append(list, zipped(0, 0, 0, how))
	}
	for _, op := range []uint8{0, 7, 8, 255} {
		list = append(list, api.Instr{Op: op, Value: 1, Point: p, How: 1, At: []int{0, 0}})
	}
	return list
}

// invalidCodes returns code that is not valid for twoLanes, for one reason each.
func invalidCodes() []api.Code {
	list := []api.Code{{}, pair(slices.Repeat([]api.Instr{set(0, 0)}, 200001)...)}
	change := func(f func(c *api.Code)) {
		c := pair(set(0, 1))
		f(&c)
		list = append(list, c)
	}
	for _, n := range []int{0, -1, 17, least, over, 1<<32 + 1} {
		change(func(c *api.Code) { c.W = n })
		change(func(c *api.Code) { c.H = n })
	}
	change(func(c *api.Code) { c.W, c.H, c.Inputs, c.Output = 7, 1, nil, 0 })
	change(func(c *api.Code) { c.W, c.H, c.Inputs, c.Output = 2, 4, nil, -1 })
	change(func(c *api.Code) { c.Inputs = []int{-1, -1, -1, -1} })
	change(func(c *api.Code) { c.Inputs = []int{0, 0, 0, 0} })
	for _, n := range []int{-2, 5, 6, 8192, least, over, 1 << 32} {
		change(func(c *api.Code) { c.Inputs = []int{n} })
		change(func(c *api.Code) { c.Inputs = []int{0, -1, n} })
		change(func(c *api.Code) { c.Output = n })
	}
	change(func(c *api.Code) { c.Output = -1 })
	for _, n := range []int{3, 4, 5} {
		change(func(c *api.Code) { c.H, c.Inputs, c.Output = 2, []int{n}, 2 })
		change(func(c *api.Code) { c.H, c.Inputs, c.Output = 2, []int{2, -1, n}, 2 })
		change(func(c *api.Code) { c.H, c.Inputs, c.Output = 2, []int{2}, n })
	}
	for _, i := range invalidInstrs() {
		list = append(list, pair(i), pair(set(0, 1), i, set(0, 1)))
	}
	return list
}

// P3.3
func TestCheckCodeErrors(t *testing.T) {
	for i, c := range invalidCodes() {
		if e := pipe.CheckCode(twoLanes(), c); e != api.ErrCode {
			t.Errorf("%d: %v", i, e)
		}
	}
}

// P3.3
func TestRunErrors(t *testing.T) {
	good := row(1, 2)
	for _, v := range invalidVectors() {
		if m, e := pipe.Run(v, api.Code{}, nil); e != api.ErrVector || !isZeroImage(m) {
			t.Errorf("%v: %v, %v", v, m, e)
		}
	}
	for i, c := range invalidCodes() {
		if m, e := pipe.Run(twoLanes(), c, []api.Image{{}, good}); e != api.ErrCode || !isZeroImage(m) {
			t.Errorf("%d: %v, %v", i, m, e)
		}
	}
	for _, inputs := range [][]int{{0, 6}, {-1, -1}, {6, -1}} {
		c := api.Code{W: 3, H: 2, Inputs: inputs}
		for _, l := range badLists() {
			if m, e := pipe.Run(vector(1, 2, 20), c, l); e != api.ErrArg || !isZeroImage(m) {
				t.Errorf("%v: %v, %v", l, m, e)
			}
		}
	}
}

// P3.3: what each instruction does; the image 5 -7 is placed from 0 on, and what is in the words 2 and 3 is the result.
func TestRunInstructions(t *testing.T) {
	all := point(1, 0, 1, -most, most)
	for i, x := range []struct {
		list []api.Instr
		want []int
	}{
		{nil, []int{0, 0}},
		{[]api.Instr{load(0, 9, 0, 1), store(0, 2, 3)}, []int{5, -7}},
		{[]api.Instr{load(0, 9, 1, 0), store(0, 2, 3)}, []int{-7, 5}},
		{[]api.Instr{load(0, 9, -1, 0), store(0, 2, 3)}, []int{9, 5}},
		{[]api.Instr{load(0, -most, -1, -1), store(0, 2, 3)}, []int{-most, -most}},
		{[]api.Instr{load(0, 9, 1, 1), store(0, 3, -1)}, []int{0, -7}},
		{[]api.Instr{load(0, 9, 5, 1), store(0, 2, 3)}, []int{0, -7}},
		// If an address occurs more than once, the last lane counts.
		{[]api.Instr{load(0, 9, 0, 1), store(0, 2, 2)}, []int{-7, 0}},
		{[]api.Instr{load(0, 9, 1, 0), store(0, 3, 3)}, []int{0, 5}},
		// Registers are 0 in the beginning, and each is one of its own.
		{[]api.Instr{set(1, 4), store(0, 2, -1), store(1, -1, 3)}, []int{0, 4}},
		{[]api.Instr{set(2, -most), store(2, 2, 3)}, []int{-most, -most}},
		{[]api.Instr{load(0, 0, 0, 1), pointed(1, 0, point(3, 1, 2, -10, 7)), store(1, 2, 3)}, []int{7, -10}},
		{[]api.Instr{load(0, 0, 0, 1), pointed(0, 0, point(3, 0, 2, -99, 99)), store(0, 2, 3)}, []int{7, -11}},
		{[]api.Instr{load(0, 0, 0, 1), set(1, 3), zipped(2, 0, 1, api.ZipSum), store(2, 2, 3)}, []int{8, -4}},
		{[]api.Instr{load(0, 0, 0, 1), set(1, 3), zipped(2, 0, 1, api.ZipDifference), store(2, 2, 3)}, []int{2, -10}},
		{[]api.Instr{load(0, 0, 0, 1), set(1, 3), zipped(0, 1, 0, api.ZipDifference), store(0, 2, 3)}, []int{-2, 10}},
		{[]api.Instr{load(0, 0, 0, 1), set(1, 3), zipped(1, 0, 1, api.ZipLeast), store(1, 2, 3)}, []int{3, -7}},
		{[]api.Instr{load(0, 0, 0, 1), set(1, 3), zipped(2, 0, 1, api.ZipMost), store(2, 2, 3)}, []int{5, 3}},
		{[]api.Instr{load(0, 0, 0, 1), zipped(0, 0, 0, api.ZipProduct), store(0, 2, 3)}, []int{25, 49}},
		{[]api.Instr{load(0, 0, 0, 1), set(1, 3), zipped(2, 1, 0, api.ZipDistance), store(2, 2, 3)}, []int{2, 10}},
		{[]api.Instr{load(0, 0, 0, 1), set(1, 3), added(1, 0, 10), store(1, 2, 3)}, []int{53, -67}},
		{[]api.Instr{load(0, 0, 0, 1), added(0, 0, -3), store(0, 2, 3)}, []int{-10, 14}},
		// Sums are greater than values may be, until a value is made of them.
		{[]api.Instr{set(0, most), set(1, most), added(0, 1, 2), added(0, 1, -2), store(0, 2, 3)}, []int{most, most}},
		{[]api.Instr{set(0, most), set(1, most), added(0, 1, 2), store(0, 2, 3)}, []int{most, most}},
		{[]api.Instr{set(0, -most), added(0, 0, 3), store(0, 2, 3)}, []int{-most, -most}},
		{[]api.Instr{set(0, most), added(0, 0, 3), pointed(0, 0, point(1, 0, 2, -most, most)), store(0, 2, 3)}, []int{most / 2, most / 2}},
		{[]api.Instr{set(0, -most), added(0, 0, 3), pointed(0, 0, all), set(1, 1), added(0, 1, 1), store(0, 2, 3)}, []int{1 - most, 1 - most}},
		{[]api.Instr{set(0, most), set(1, 1), added(0, 0, 3), zipped(0, 0, 1, api.ZipDifference), store(0, 2, 3)}, []int{most - 1, most - 1}},
		{[]api.Instr{set(0, -most), set(1, -1), added(0, 0, 3), zipped(0, 1, 0, api.ZipSum), added(0, 1, -1), store(0, 2, 3)}, []int{1 - most, 1 - most}},
		{[]api.Instr{set(0, most), zipped(0, 0, 0, api.ZipProduct), set(1, 1), added(0, 1, -1), store(0, 2, 3)}, []int{most - 1, most - 1}},
		{[]api.Instr{set(0, most), set(1, 1), added(0, 0, 3), set(2, -most), added(2, 0, 1), store(2, 2, 3)}, []int{0, 0}},
	} {
		if m, e := pipe.Run(twoLanes(), pair(x.list...), []api.Image{row(5, -7)}); e != api.OK || !equal(m, row(x.want...)) {
			t.Errorf("%d: %v, %v", i, m, e)
		}
	}
}

// P3.3: sums end at 2^60 either way, from where so many others lead back to 0.
func TestRunWide(t *testing.T) {
	steps := 1 << 13 // of 2^16 times 2^31
	for _, sign := range []int{1, -1} {
		for _, more := range []int{0, 1, 100} {
			list := slices.Repeat([]api.Instr{added(0, 1, sign*factor)}, steps+more)
			list = slices.Concat([]api.Instr{set(1, most)}, list, slices.Repeat([]api.Instr{added(0, 1, -sign*factor)}, steps), []api.Instr{set(1, 5), added(0, 1, 1), store(0, 2, 3)})
			if m, e := pipe.Run(twoLanes(), pair(list...), []api.Image{row(5, -7)}); e != api.OK || !equal(m, row(5, 5)) {
				t.Errorf("%d, %d: %v, %v", sign, more, m, e)
			}
		}
	}
}

// P3.3: images are placed one after the other, the later ones over the earlier ones, or not at all.
func TestRunPlaces(t *testing.T) {
	l := []api.Image{img(2, 1, 2, 3, 4), img(2, 5, 6, 7, 8), img(2, 9, 10, 11, 12)}
	for i, x := range []struct {
		inputs []int
		output int
		want   []int
	}{
		{[]int{0, 4, 8}, 0, []int{1, 2, 3, 4}},
		{[]int{0, 4, 8}, 8, []int{9, 10, 11, 12}},
		{[]int{0, 4, 8}, 6, []int{7, 8, 9, 10}},
		{[]int{0, 0, 0}, 0, []int{9, 10, 11, 12}},
		{[]int{0, 2, 4}, 1, []int{2, 5, 6, 9}},
		{[]int{4, 2, 0}, 1, []int{10, 11, 12, 7}},
		{[]int{-1, 0, -1}, 0, []int{5, 6, 7, 8}},
		{[]int{-1, -1, -1}, 0, []int{0, 0, 0, 0}},
		{[]int{5, -1, 0}, 2, []int{11, 12, 0, 1}},
	} {
		c := api.Code{W: 2, H: 2, Inputs: x.inputs, Output: x.output}
		if m, e := pipe.Run(vector(1, 2, 12), c, l); e != api.OK || !equal(m, img(2, x.want...)) {
			t.Errorf("%d: %v, %v", i, m, e)
		}
	}
	if m, e := pipe.Run(vector(1, 2, 1), api.Code{W: 1, H: 1, Instr: []api.Instr{set(0, 3), store(0, 0)}}, nil); e != api.OK || !equal(m, row(3)) {
		t.Error(m, e)
	}
}

// brought returns a long number, brought into a range.
func brought(n *big.Int, lo, hi int) int {
	if n.Cmp(big.NewInt(int64(lo))) < 0 {
		return lo
	}
	if n.Cmp(big.NewInt(int64(hi))) > 0 {
		return hi
	}
	return int(n.Int64())
}

func long(n int) *big.Int { return big.NewInt(int64(n)) }

// longPoint returns what a point operation turns a value into.
func longPoint(v int, p api.Point) int {
	n := new(big.Int).Mul(long(p.Mul), long(v))
	n.Add(n, long(p.Add))
	n.Div(n, long(p.Div)) // Euclid's division rounds down for a divisor above 0.
	return brought(n, p.Lo, p.Hi)
}

// longZip returns the result of an operation for two values.
func longZip(a, b int, how uint8) int {
	x, y, z := long(a), long(b), new(big.Int)
	switch how {
	case 1:
		z.Add(x, y)
	case 2:
		z.Sub(x, y)
	case 3, 4:
		if (x.Cmp(y) < 0) == (how == 3) {
			z = x
		} else {
			z = y
		}
	case 5:
		z.Mul(x, y)
	case 6:
		z.Abs(z.Sub(x, y))
	}
	return brought(z, -most, most)
}

// runSlowly returns what code gives: with words and registers in maps, and long numbers.
func runSlowly(v api.Vector, c api.Code, l []api.Image) api.Image {
	words, registers := map[int]int{}, map[[2]int]int{}
	for i, from := range c.Inputs {
		for j, n := range l[i].Pix {
			if from >= 0 {
				words[from+j] = n
			}
		}
	}
	for _, i := range c.Instr {
		for lane := range v.Lanes {
			a, b := registers[[2]int{i.A, lane}], registers[[2]int{i.B, lane}]
			a, b = brought(long(a), -most, most), brought(long(b), -most, most)
			d := [2]int{i.D, lane}
			switch i.Op {
			case api.CodeLoad:
				registers[d] = i.Value
				if i.At[lane] >= 0 {
					registers[d] = words[i.At[lane]]
				}
			case api.CodeStore:
				if i.At[lane] >= 0 {
					words[i.At[lane]] = a
				}
			case api.CodeSet:
				registers[d] = i.Value
			case api.CodePoint:
				registers[d] = longPoint(a, i.Point)
			case api.CodeZip:
				registers[d] = longZip(a, b, i.How)
			case api.CodeAdd:
				sum := new(big.Int).Mul(long(i.Value), long(a))
				registers[d] = brought(sum.Add(sum, long(registers[d])), -1<<60, 1<<60)
			}
		}
	}
	m := api.Image{W: c.W, H: c.H}
	for i := range c.W * c.H {
		m.Pix = append(m.Pix, words[c.Output+i])
	}
	return m
}

// code returns valid code for a machine with at least as many words as the images have pixels.
func (d dice) code(v api.Vector, w, h int) api.Code {
	at := func() []int {
		var list []int
		for range v.Lanes {
			list = append(list, d.Intn(v.Memory+1)-1)
		}
		return list
	}
	register := func() int { return d.Intn(v.Registers) }
	free := v.Memory - w*h + 1
	c := api.Code{W: w, H: h, Output: d.Intn(free)}
	for range d.Intn(4) {
		c.Inputs = append(c.Inputs, d.Intn(free+1)-1)
	}
	for range d.Intn(60) {
		switch d.Intn(7) {
		case 0:
			c.Instr = append(c.Instr, load(register(), d.size(most), at()...))
		case 1:
			c.Instr = append(c.Instr, store(register(), at()...))
		case 2:
			c.Instr = append(c.Instr, set(register(), d.size(most)))
		case 3:
			c.Instr = append(c.Instr, pointed(register(), register(), d.point()))
		case 4:
			c.Instr = append(c.Instr, zipped(register(), register(), register(), uint8(1+d.Intn(6))))
		default:
			c.Instr = append(c.Instr, added(register(), register(), d.size(factor)))
		}
	}
	return c
}

// P3.3: any code gives what the slow machine gives.
func TestRun(t *testing.T) {
	d := newDice(6)
	for range 4000 {
		w, h := 1+d.Intn(3), 1+d.Intn(3)
		v := vector(1+d.Intn(16), 2+d.Intn(3), w*h+d.Intn(6))
		c := d.code(v, w, h)
		var l []api.Image
		for range c.Inputs {
			l = append(l, d.image(w, h))
		}
		want := runSlowly(v, c, l)
		if m, e := pipe.Run(v, c, l); e != api.OK || !equal(m, want) {
			t.Fatalf("Run(%v, %v, %v): %v, %v instead of %v", v, c, l, m, e, want)
		}
	}
}
