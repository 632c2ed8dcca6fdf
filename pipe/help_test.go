package pipe_test

import (
	"math/rand"
	"slices"
	"testing"

	"sightbench/api"
	"sightbench/image"
	"sightbench/pipe"
)

const (
	most   = api.MaxPix
	factor = api.MaxFactor
	least  = -1 << 63
	over   = 1<<63 - 1
)

func img(w int, pix ...int) api.Image {
	return api.Image{W: w, H: len(pix) / w, Pix: pix}
}

func row(pix ...int) api.Image { return img(len(pix), pix...) }

func kernel(w int, taps ...int) api.Kernel {
	return api.Kernel{W: w, H: len(taps) / w, Taps: taps}
}

func shape(w int, in ...bool) api.Shape {
	return api.Shape{W: w, H: len(in) / w, In: in}
}

func point(mul, add, div, lo, hi int) api.Point {
	return api.Point{Mul: mul, Add: add, Div: div, Lo: lo, Hi: hi}
}

func onPoint(a int, p api.Point) api.Step { return api.Step{Op: api.StepPoint, A: a, Point: p} }

// plus1 is a point operation without any edge cases.
func plus1(a int) api.Step { return onPoint(a, point(1, 1, 1, -most, most)) }

func onZip(a, b int, how uint8) api.Step {
	return api.Step{Op: api.StepZip, A: a, B: b, How: how}
}

func onConvolve(a int, k api.Kernel, border uint8) api.Step {
	return api.Step{Op: api.StepConvolve, A: a, Kernel: k, Border: border}
}

func onDilate(a int, s api.Shape) api.Step {
	return api.Step{Op: api.StepDilate, A: a, Shape: s}
}

func onErode(a int, s api.Shape) api.Step { return api.Step{Op: api.StepErode, A: a, Shape: s} }

func newPipe(w, h, inputs int, steps ...api.Step) api.Pipe {
	return api.Pipe{W: w, H: h, Inputs: inputs, Steps: steps}
}

func vector(lanes, registers, memory int) api.Vector {
	return api.Vector{Lanes: lanes, Registers: registers, Memory: memory}
}

// example is the pipe of the document's examples.
func example() api.Pipe {
	return newPipe(4, 1, 1,
		onConvolve(0, kernel(3, 1, 0, -1), api.BorderZero),
		onPoint(1, point(-1, 0, 1, -9, 9)),
		onZip(1, 2, api.ZipMost),
		onPoint(3, point(2, 0, 1, 0, 100)))
}

func equal(a, b api.Image) bool {
	return a.W == b.W && a.H == b.H && slices.Equal(a.Pix, b.Pix)
}

func equalSteps(a, b api.Step) bool {
	return a.Op == b.Op && a.A == b.A && a.B == b.B && a.Point == b.Point && a.How == b.How && a.Border == b.Border &&
		a.Kernel.W == b.Kernel.W && a.Kernel.H == b.Kernel.H && slices.Equal(a.Kernel.Taps, b.Kernel.Taps) &&
		a.Shape.W == b.Shape.W && a.Shape.H == b.Shape.H && slices.Equal(a.Shape.In, b.Shape.In)
}

func equalPipes(a, b api.Pipe) bool {
	return a.W == b.W && a.H == b.H && a.Inputs == b.Inputs && slices.EqualFunc(a.Steps, b.Steps, equalSteps)
}

func equalInstr(a, b api.Instr) bool {
	return a.Op == b.Op && a.D == b.D && a.A == b.A && a.B == b.B && a.Value == b.Value && a.Point == b.Point && a.How == b.How && slices.Equal(a.At, b.At)
}

func equalCode(a, b api.Code) bool {
	return a.W == b.W && a.H == b.H && a.Output == b.Output && slices.Equal(a.Inputs, b.Inputs) && slices.EqualFunc(a.Instr, b.Instr, equalInstr)
}

func isZeroImage(m api.Image) bool { return equal(m, api.Image{}) }

func isZeroPipe(p api.Pipe) bool { return equalPipes(p, api.Pipe{}) }

func isZeroCode(c api.Code) bool { return equalCode(c, api.Code{}) }

// must fails the test unless a call returned OK.
func must[T any](t *testing.T) func(x T, e api.Errno) T {
	return func(x T, e api.Errno) T {
		t.Helper()
		if e != api.OK {
			t.Fatal(e)
		}
		return x
	}
}

// dice makes pipes, images and code by chance, the same ones in each run.
type dice struct{ *rand.Rand }

func newDice(seed int64) dice { return dice{rand.New(rand.NewSource(seed))} }

// size returns a number from -most to most, which is often small, or one of the ends.
func (d dice) size(most int) int {
	switch d.Intn(6) {
	case 0:
		return -most
	case 1:
		return most
	case 2:
		return d.Intn(2*most+1) - most
	}
	return d.Intn(19) - 9
}

func (d dice) image(w, h int) api.Image {
	m := api.Image{W: w, H: h, Pix: make([]int, w*h)}
	for i := range m.Pix {
		m.Pix[i] = d.size(most)
	}
	return m
}

func (d dice) images(p api.Pipe) []api.Image {
	var l []api.Image
	for range p.Inputs {
		l = append(l, d.image(p.W, p.H))
	}
	return l
}

func (d dice) point() api.Point {
	lo, hi := d.size(most), d.size(most)
	if d.Intn(2) == 0 {
		lo, hi = -most, most
	}
	return point(d.size(factor), d.size(most), 1+d.Intn([]int{1, 4, factor}[d.Intn(3)]), min(lo, hi), max(lo, hi))
}

func (d dice) side() int { return 1 + 2*d.Intn(3) }

func (d dice) kernel() api.Kernel {
	k := api.Kernel{W: d.side(), H: d.side()}
	for range k.W * k.H {
		k.Taps = append(k.Taps, d.size(factor)*d.Intn(2))
	}
	return k
}

func (d dice) shape() api.Shape {
	s := api.Shape{W: d.side(), H: d.side()}
	for range s.W * s.H {
		s.In = append(s.In, d.Intn(2) == 0)
	}
	s.In[d.Intn(len(s.In))] = true
	return s
}

// step returns a valid step for so many images; often it uses the newest one.
func (d dice) step(images int, ops ...uint8) api.Step {
	which := func() int {
		if d.Intn(2) == 0 {
			return images - 1
		}
		return d.Intn(images)
	}
	s := api.Step{Op: ops[d.Intn(len(ops))], A: which()}
	switch s.Op {
	case api.StepPoint:
		s.Point = d.point()
	case api.StepZip:
		s.B, s.How = which(), uint8(1+d.Intn(6))
	case api.StepConvolve:
		s.Kernel, s.Border = d.kernel(), uint8(1+d.Intn(3))
	default:
		s.Shape = d.shape()
	}
	return s
}

// spoiled returns a step with anything in the fields that its operation does not need.
func spoiled(s api.Step) api.Step {
	if s.Op != api.StepPoint {
		s.Point = point(over, least, 0, 9, -9)
	}
	if s.Op != api.StepZip {
		s.B, s.How = least, 77
	}
	if s.Op != api.StepConvolve {
		s.Kernel, s.Border = api.Kernel{W: -1, H: over, Taps: []int{least, 5}}, 99
	}
	if s.Op != api.StepDilate && s.Op != api.StepErode {
		s.Shape = api.Shape{W: over, H: 2, In: []bool{false, true}}
	}
	return s
}

// allOps are all operations of steps; points occur twice, so that some of them follow one another.
func allOps() []uint8 {
	return []uint8{api.StepPoint, api.StepPoint, api.StepZip, api.StepConvolve, api.StepDilate, api.StepErode}
}

// pipe returns a valid pipe of at most that size, with steps of these operations.
func (d dice) pipe(side int, ops ...uint8) api.Pipe {
	p := newPipe(1+d.Intn(side), 1+d.Intn(side), 1+d.Intn(3))
	for i := range 1 + d.Intn(12) {
		s := d.step(p.Inputs+i, ops...)
		if d.Intn(8) == 0 {
			s = spoiled(s)
		}
		p.Steps = append(p.Steps, s)
	}
	return p
}

// pool returns pipes of all kinds: small ones, large ones, and those in which images are only handed on.
func pool() []api.Pipe {
	d := newDice(1)
	list := []api.Pipe{example()}
	for range 300 {
		list = append(list, d.pipe(4, allOps()...), d.pipe(4, api.StepPoint, api.StepZip), d.pipe(3, api.StepPoint, api.StepPoint, api.StepPoint, api.StepErode))
	}
	for range 40 {
		list = append(list, d.pipe(16, allOps()...))
	}
	for i := range 5 {
		p := d.pipe(1, allOps()[i+1])
		p.W, p.H = 16, 16
		list = append(list, p)
	}
	return list
}

// wirings returns all pipes of so many inputs and steps in which each step is a point operation, a dilation or a sum: whatever the steps may use of one another.
func wirings(inputs, steps int) []api.Pipe {
	list := []api.Pipe{newPipe(2, 1, inputs)}
	for i := range steps {
		var longer []api.Pipe
		for _, p := range list {
			for a := range inputs + i {
				longer = append(longer, with(p, plus1(a)), with(p, onDilate(a, shape(3, true, true, false))))
				for b := range inputs + i {
					longer = append(longer, with(p, onZip(a, b, api.ZipSum)))
				}
			}
		}
		list = longer
	}
	return list
}

// allWirings returns those of few steps.
func allWirings() []api.Pipe {
	var list []api.Pipe
	for _, n := range [][2]int{{1, 1}, {1, 2}, {1, 3}, {1, 4}, {2, 1}, {2, 2}, {2, 3}, {3, 1}, {3, 2}} {
		list = append(list, wirings(n[0], n[1])...)
	}
	return list
}

// with returns a pipe with one more step.
func with(p api.Pipe, s api.Step) api.Pipe {
	p.Steps = append(slices.Clone(p.Steps), s)
	return p
}

// changed returns a copy of a pipe in new memory after a change.
func changed(p api.Pipe, change func(p *api.Pipe)) api.Pipe {
	p.Steps = slices.Clone(p.Steps)
	for i, s := range p.Steps {
		p.Steps[i].Kernel.Taps = slices.Clone(s.Kernel.Taps)
		p.Steps[i].Shape.In = slices.Clone(s.Shape.In)
	}
	change(&p)
	return p
}

// meaning is the meaning of a pipe from its end: an image is given, or what its step makes of the meanings of those that it uses.
func meaning(p api.Pipe, l []api.Image, n int) api.Image {
	if n < p.Inputs {
		return l[n]
	}
	var m api.Image
	var e api.Errno
	switch s := p.Steps[n-p.Inputs]; s.Op {
	case api.StepPoint:
		m, e = image.Point(meaning(p, l, s.A), s.Point)
	case api.StepZip:
		m, e = image.Zip(meaning(p, l, s.A), meaning(p, l, s.B), s.How)
	case api.StepConvolve:
		m, e = image.Convolve(meaning(p, l, s.A), s.Kernel, s.Border)
	case api.StepDilate:
		m, e = image.Dilate(meaning(p, l, s.A), s.Shape)
	case api.StepErode:
		m, e = image.Erode(meaning(p, l, s.A), s.Shape)
	}
	if e != api.OK {
		panic(e)
	}
	return m
}

func last(p api.Pipe) int { return p.Inputs + len(p.Steps) - 1 }

// mean returns the meaning of a pipe that is valid, for images that fit.
func mean(t *testing.T, p api.Pipe, l []api.Image) api.Image {
	t.Helper()
	return must[api.Image](t)(pipe.Mean(p, l))
}
