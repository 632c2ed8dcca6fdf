package pipe_test

import (
	"slices"
	"testing"

	"sightbench/api"
	"sightbench/pipe"
)

// P1 (R1, R2, P3.1): an invalid pipe leads to ErrPipe before any other error, with zero values.
func TestBadPipes(t *testing.T) {
	for _, p := range invalidPipes() {
		for _, l := range append(badLists(), []api.Image{{}}) {
			if m, e := pipe.Mean(p, l); e != api.ErrPipe || !isZeroImage(m) {
				t.Errorf("Mean of %v: %v, %v", p, m, e)
			}
		}
		if q, e := pipe.Trim(p); e != api.ErrPipe || !isZeroPipe(q) {
			t.Errorf("Trim of %v: %v, %v", p, q, e)
		}
		if n, e := pipe.Room(p); e != api.ErrPipe || n != 0 {
			t.Errorf("Room of %v: %v, %v", p, n, e)
		}
		for _, lanes := range []int{1, 0, least, over} {
			if n, e := pipe.Length(p, lanes); e != api.ErrPipe || n != 0 {
				t.Errorf("Length of %v: %v, %v", p, n, e)
			}
		}
	}
}

// watch has all memory of arguments, with what it was.
type watch struct {
	numbers, numbersBefore [][]int
	marks, marksBefore     [][]bool
	steps, stepsBefore     [][]api.Step
	instr, instrBefore     [][]api.Instr
	images, imagesBefore   [][]api.Image
}

// roomy returns a copy of a list with more memory behind its end, and adds all of that memory to what is watched.
func roomy[T any](list []T, mark T, all, before *[][]T) []T {
	long := append(slices.Clone(list), slices.Repeat([]T{mark}, 40)...)
	*all = append(*all, long)
	*before = append(*before, slices.Clone(long))
	return long[:len(list)]
}

func (w *watch) list(list []int) []int { return roomy(list, 77, &w.numbers, &w.numbersBefore) }

func (w *watch) pipe(p api.Pipe) api.Pipe {
	var steps []api.Step
	for _, s := range p.Steps {
		s.Kernel.Taps = w.list(s.Kernel.Taps)
		s.Shape.In = roomy(s.Shape.In, true, &w.marks, &w.marksBefore)
		steps = append(steps, s)
	}
	p.Steps = roomy(steps, plus1(0), &w.steps, &w.stepsBefore)
	return p
}

func (w *watch) all(l []api.Image) []api.Image {
	var list []api.Image
	for _, m := range l {
		m.Pix = w.list(m.Pix)
		list = append(list, m)
	}
	return roomy(list, row(1), &w.images, &w.imagesBefore)
}

func (w *watch) code(c api.Code) api.Code {
	var instr []api.Instr
	for _, i := range c.Instr {
		i.At = w.list(i.At)
		instr = append(instr, i)
	}
	c.Inputs = w.list(c.Inputs)
	c.Instr = roomy(instr, set(0, 1), &w.instr, &w.instrBefore)
	return c
}

// changed reports whether any of the memory is no longer what it was.
func (w *watch) changed() bool {
	return !slices.EqualFunc(w.numbers, w.numbersBefore, slices.Equal[[]int]) ||
		!slices.EqualFunc(w.marks, w.marksBefore, slices.Equal[[]bool]) ||
		!slices.EqualFunc(w.steps, w.stepsBefore, func(a, b []api.Step) bool { return slices.EqualFunc(a, b, equalSteps) }) ||
		!slices.EqualFunc(w.instr, w.instrBefore, func(a, b []api.Instr) bool { return slices.EqualFunc(a, b, equalInstr) }) ||
		!slices.EqualFunc(w.images, w.imagesBefore, func(a, b []api.Image) bool { return slices.EqualFunc(a, b, equal) })
}

// spoiler writes into results another number at each place, and then tells whether all of them are still there.
type spoiler struct{ lists [][]int }

func (s *spoiler) numbers(list []int) {
	s.lists = append(s.lists, list[:cap(list)])
}

// shared reports whether two of the lists share memory.
func (s *spoiler) shared() bool {
	n := 0
	for _, list := range s.lists {
		for i := range list {
			n++
			list[i] = n
		}
	}
	n = 0
	for _, list := range s.lists {
		for i := range list {
			n++
			if list[i] != n {
				return true
			}
		}
	}
	return false
}

// fullPipe returns a pipe with lists in all of its steps, needed ones and others.
func fullPipe(d dice) api.Pipe {
	p := d.pipe(4, allOps()...)
	for i, s := range p.Steps {
		p.Steps[i] = spoiled(s)
	}
	return p
}

// P1 (R3): arguments are only read, results share no memory with them, nor with one another, and nothing is kept from one call to the next.
func TestMemoryOfTrim(t *testing.T) {
	d := newDice(14)
	for range 100 {
		var w watch
		p := w.pipe(fullPipe(d))
		first := must[api.Pipe](t)(pipe.Trim(p))
		kept := changed(first, func(*api.Pipe) {})
		var s spoiler
		for i := range first.Steps {
			s.numbers(first.Steps[i].Kernel.Taps)
			in := first.Steps[i].Shape.In
			for j := range in[:cap(in)] {
				in[:cap(in)][j] = !in[:cap(in)][j]
			}
		}
		if s.shared() {
			t.Fatal("shared memory", p)
		}
		all := first.Steps[:cap(first.Steps)]
		for i := range all {
			all[i] = api.Step{Op: 99}
		}
		if again := must[api.Pipe](t)(pipe.Trim(p)); w.changed() || !equalPipes(again, kept) {
			t.Fatal("shared memory", p)
		}
	}
}

// P1 (R3)
func TestMemoryOfTrimShapes(t *testing.T) {
	one := shape(3, true, false, true)
	p := must[api.Pipe](t)(pipe.Trim(newPipe(2, 2, 1, onDilate(0, one), onErode(1, one))))
	p.Steps[0].Shape.In[1] = true
	if p.Steps[1].Shape.In[1] || one.In[1] {
		t.Error("shared memory")
	}
}

// P1 (R3)
func TestMemoryOfCompile(t *testing.T) {
	d := newDice(15)
	for range 100 {
		var w watch
		p := w.pipe(fullPipe(d))
		v := vector(1+d.Intn(5), 2, theRoom(p))
		first, kept := compiled(t, p, v), compiled(t, p, v)
		var s spoiler
		s.numbers(first.Inputs)
		for _, i := range first.Instr {
			s.numbers(i.At)
		}
		if s.shared() {
			t.Fatal("shared memory", p)
		}
		all := first.Instr[:cap(first.Instr)]
		for i := range all {
			all[i] = api.Instr{Op: 99}
		}
		if w.changed() || !equalCode(compiled(t, p, v), kept) {
			t.Fatal("shared memory", p)
		}
	}
}

// P1 (R3)
func TestMemoryOfImages(t *testing.T) {
	d := newDice(16)
	for range 200 {
		var w watch
		p := w.pipe(fullPipe(d))
		l := w.all(d.images(p))
		v := vector(1+d.Intn(5), 2, theRoom(p))
		c := w.code(compiled(t, p, v))
		want := meaning(p, l, last(p))
		for range 2 {
			a, b := mean(t, p, l), must[api.Image](t)(pipe.Run(v, c, l))
			if !equal(a, want) || !equal(b, want) || w.changed() {
				t.Fatal("changed", p, a, b)
			}
			var s spoiler
			s.numbers(a.Pix)
			s.numbers(b.Pix)
			if s.shared() || w.changed() {
				t.Fatal("shared memory", p)
			}
		}
		if pipe.Check(p) != api.OK || pipe.CheckCode(v, c) != api.OK || w.changed() {
			t.Fatal("changed", p)
		}
		pipe.Room(p)
		pipe.Length(p, 3)
		if w.changed() {
			t.Fatal("changed", p)
		}
	}
}

// P1 (R3): the same image may be given more than once.
func TestSameImage(t *testing.T) {
	m := row(3, -4)
	p := newPipe(2, 1, 2, onZip(0, 1, api.ZipProduct))
	l := []api.Image{m, m}
	if a, b := mean(t, p, l), run(t, p, l); !equal(a, row(9, 16)) || !equal(b, row(9, 16)) || !equal(m, row(3, -4)) {
		t.Error(a, b, m)
	}
}

// P1 (R4): nil and empty lists are the same.
func TestNilAndEmpty(t *testing.T) {
	c := api.Code{W: 1, H: 1}
	for _, l := range [][]api.Image{nil, {}} {
		for _, inputs := range [][]int{nil, {}} {
			for _, instr := range [][]api.Instr{nil, {}} {
				c.Inputs, c.Instr = inputs, instr
				if m, e := pipe.Run(vector(1, 2, 1), c, l); e != api.OK || !equal(m, row(0)) {
					t.Error(m, e)
				}
			}
		}
	}
}

// P1 (R7): no call panics, whatever the arguments are.
func TestExtremes(t *testing.T) {
	d := newDice(17)
	numbers := []int{least, least + 1, -most - 1, -most, -2, -1, 0, 1, 2, 3, 4, 16, 17, most, most + 1, over}
	n := func() int { return numbers[d.Intn(len(numbers))] }
	small := func() int {
		if d.Intn(4) > 0 {
			return d.Intn(4)
		}
		return n()
	}
	list := func() []int {
		var l []int
		for range d.Intn(4) {
			l = append(l, small())
		}
		return l
	}
	pix := func() []api.Image {
		var l []api.Image
		for range d.Intn(4) {
			l = append(l, api.Image{W: small(), H: small(), Pix: list()})
		}
		return l
	}
	for range 20000 {
		p := newPipe(small(), small(), small())
		for range d.Intn(14) {
			s := d.step(3, allOps()...)
			switch d.Intn(12) {
			case 0:
				s = spoiled(s)
			case 1:
				s.A, s.B = small(), small()
			case 2:
				s.Kernel.W, s.Shape.H = small(), small()
			case 3:
				s.Point, s.How, s.Border = point(n(), n(), n(), n(), n()), uint8(small()), uint8(small())
			case 4:
				s.Op = uint8(small())
			}
			p.Steps = append(p.Steps, s)
		}
		v := vector(small(), small(), small())
		pipe.Check(p)
		pipe.Mean(p, pix())
		pipe.Trim(p)
		pipe.Room(p)
		pipe.Length(p, small())
		pipe.Compile(p, v)
		pipe.Compile(p, vector(3, 2, 8192))
		c := api.Code{W: small(), H: small(), Inputs: list(), Output: small()}
		for range d.Intn(4) {
			c.Instr = append(c.Instr, api.Instr{Op: uint8(d.Intn(8)), D: small(), A: small(), B: small(), Value: n(), Point: d.point(), How: uint8(small()), At: list()})
		}
		pipe.CheckCode(v, c)
		pipe.Run(v, c, pix())
		pipe.Run(vector(2, 3, 20), c, pix())
	}
}
