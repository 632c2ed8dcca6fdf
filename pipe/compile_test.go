package pipe_test

import (
	"testing"

	"sightbench/api"
	"sightbench/pipe"
)

// P3.4
func TestCompileErrors(t *testing.T) {
	for _, p := range invalidPipes() {
		for _, v := range []api.Vector{{}, vector(4, 2, 8192), vector(1, 2, 1)} {
			if c, e := pipe.Compile(p, v); e != api.ErrPipe || !isZeroCode(c) {
				t.Errorf("%v, %v: %v, %v", p, v, c, e)
			}
		}
	}
	for _, v := range invalidVectors() {
		if c, e := pipe.Compile(example(), v); e != api.ErrVector || !isZeroCode(c) {
			t.Errorf("%v: %v, %v", v, c, e)
		}
	}
	for _, memory := range []int{1, 4, 11} {
		if c, e := pipe.Compile(example(), vector(4, 2, memory)); e != api.ErrFull || !isZeroCode(c) {
			t.Errorf("%d: %v, %v", memory, c, e)
		}
	}
	if _, e := pipe.Compile(example(), vector(4, 2, 12)); e != api.OK {
		t.Error(e)
	}
}

// P3.4: also steps that are not needed have to have their room.
func TestCompileFull(t *testing.T) {
	for _, p := range append(pool(), allWirings()...) {
		room := theRoom(p)
		if c, e := pipe.Compile(p, vector(4, 2, room-1)); e != api.ErrFull || !isZeroCode(c) {
			t.Fatalf("%v: %v, %v", p, c, e)
		}
	}
}

// isTidy reports whether the fields that an instruction does not need have their zero values.
func isTidy(i api.Instr) bool {
	switch i.Op {
	case api.CodeLoad:
		i.D, i.Value, i.At = 0, 0, nil
	case api.CodeStore:
		i.A, i.At = 0, nil
	case api.CodeSet:
		i.D, i.Value = 0, 0
	case api.CodePoint:
		i.D, i.A, i.Point = 0, 0, api.Point{}
	case api.CodeZip:
		i.D, i.A, i.B, i.How = 0, 0, 0, 0
	case api.CodeAdd:
		i.D, i.A, i.Value = 0, 0, 0
	}
	return equalInstr(i, api.Instr{Op: i.Op})
}

// compiled returns code for a pipe after it was checked.
func compiled(t *testing.T, p api.Pipe, v api.Vector) api.Code {
	t.Helper()
	c, e := pipe.Compile(p, v)
	if e != api.OK || c.W != p.W || c.H != p.H || len(c.Inputs) != p.Inputs {
		t.Fatalf("Compile(%v, %v): %v, %v", p, v, c, e)
	}
	if e := pipe.CheckCode(v, c); e != api.OK {
		t.Fatalf("CheckCode(%v, %v): %v", v, c, e)
	}
	if len(c.Instr) > theLength(p, v.Lanes) {
		t.Fatalf("Compile(%v, %v): %d instructions instead of %d", p, v, len(c.Instr), theLength(p, v.Lanes))
	}
	for _, i := range c.Instr {
		if !isTidy(i) {
			t.Fatalf("Compile(%v, %v): %v", p, v, i)
		}
	}
	return c
}

// P3.5: with as little memory and as few registers as a pipe can have, on machines with any number of lanes, for images of all kinds.
func TestCompile(t *testing.T) {
	d := newDice(7)
	for _, p := range append(pool(), allWirings()...) {
		for _, lanes := range []int{1, 1 + d.Intn(16), 16} {
			v := vector(lanes, 2, theRoom(p))
			c := compiled(t, p, v)
			for range 2 {
				l := d.images(p)
				want := mean(t, p, l)
				if m, e := pipe.Run(v, c, l); e != api.OK || !equal(m, want) {
					t.Fatalf("Run(%v, %v) for %v of %v: %v, %v instead of %v", v, c, l, p, m, e, want)
				}
			}
		}
	}
}

// greatest returns the longest pipe of one operation, on the largest images.
func greatest(s api.Step) api.Pipe {
	p := newPipe(16, 16, 3)
	for i := range 12 {
		s.A, s.B = 2+i, i/2
		p.Steps = append(p.Steps, s)
	}
	return p
}

// P3.5: the longest code.
func TestCompileGreatest(t *testing.T) {
	k, s := kernel(5, make([]int, 25)...), shape(5, make([]bool, 25)...)
	for i := range 25 {
		k.Taps[i], s.In[i] = 1-2*(i%2), true
	}
	d := newDice(8)
	for i, x := range []struct {
		s    api.Step
		want int
	}{
		{plus1(0), 3 + 11},
		{onZip(0, 0, api.ZipDistance), 4 * 12},
		{onConvolve(0, k, api.BorderWrap), 52 * 12},
		{onDilate(0, s), 50 * 12},
		{onErode(0, s), 50 * 12},
	} {
		p := greatest(x.s)
		for _, lanes := range []int{1, 13} {
			v := vector(lanes, 2, theRoom(p))
			c := compiled(t, p, v)
			if n := (255 + lanes) / lanes * x.want; len(c.Instr) > n || theLength(p, lanes) != n {
				t.Errorf("%d: %d, %d", i, len(c.Instr), n)
			}
			l := d.images(p)
			if m, e := pipe.Run(v, c, l); e != api.OK || !equal(m, mean(t, p, l)) {
				t.Errorf("%d: %v", i, e)
			}
		}
	}
}

// P3.5: where each pixel of an image goes: with one pixel of another value than the others, at each place, for each offset and border.
func TestCompileOffsets(t *testing.T) {
	d := newDice(9)
	var steps []api.Step
	for _, w := range []int{1, 3, 5} {
		for _, h := range []int{1, 3, 5} {
			for i := range w * h {
				k, s := kernel(w, make([]int, w*h)...), shape(w, make([]bool, w*h)...)
				k.Taps[i], s.In[i] = 7, true
				steps = append(steps, onConvolve(0, k, 1), onConvolve(0, k, 2), onConvolve(0, k, 3), onDilate(0, s), onErode(0, s))
			}
		}
	}
	for _, s := range steps {
		for _, size := range [][2]int{{1, 1}, {2, 1}, {1, 3}, {3, 4}} {
			p := newPipe(size[0], size[1], 1, s)
			v := vector(1+d.Intn(5), 2, theRoom(p))
			c := compiled(t, p, v)
			for i := range p.W * p.H {
				m := api.Image{W: p.W, H: p.H, Pix: make([]int, p.W*p.H)}
				m.Pix[i] = 1 - 2*d.Intn(2)
				l := []api.Image{m}
				if got, e := pipe.Run(v, c, l); e != api.OK || !equal(got, mean(t, p, l)) {
					t.Fatalf("%v of %v: %v, %v", s, m, got, e)
				}
			}
		}
	}
}

// P3.5: fields that an operation does not need change nothing.
func TestCompileFieldsWithoutNeed(t *testing.T) {
	d := newDice(10)
	for range 200 {
		p := d.pipe(4, allOps()...)
		q := changed(p, func(p *api.Pipe) {
			for i, s := range p.Steps {
				p.Steps[i] = spoiled(s)
			}
		})
		l := d.images(p)
		v := vector(3, 2, theRoom(p))
		if theRoom(q) != theRoom(p) || !equal(mean(t, q, l), mean(t, p, l)) {
			t.Fatal(p)
		}
		if m, e := pipe.Run(v, compiled(t, q, v), l); e != api.OK || !equal(m, mean(t, p, l)) {
			t.Fatal(p, m, e)
		}
	}
}

// P3.7
func TestMachines(t *testing.T) {
	d := newDice(11)
	for range 300 {
		p := d.pipe(5, allOps()...)
		l := d.images(p)
		var first api.Image
		for i := range 8 {
			v := vector(1+d.Intn(16), 2+d.Intn(15), theRoom(p)+d.Intn(8192-theRoom(p)+1))
			m, e := pipe.Run(v, compiled(t, p, v), l)
			if i == 0 {
				first = m
			}
			if e != api.OK || !equal(m, first) {
				t.Fatalf("%v on %v: %v, %v instead of %v", p, v, m, e, first)
			}
		}
	}
}
