package pipe

import (
	"slices"

	"sightbench/api"
)

// The registers that code uses: each machine has two.
const (
	left  = 0 // what becomes the result
	right = 1 // what is combined with it
)

// Compile returns code for a pipe and a machine.
func Compile(p api.Pipe, v api.Vector) (api.Code, api.Errno) {
	room, e := Room(p)
	if e != api.OK {
		return api.Code{}, e
	}
	if !isVector(v) {
		return api.Code{}, api.ErrVector
	}
	if v.Memory < room {
		return api.Code{}, api.ErrFull
	}
	// The steps that are not needed change nothing, and without them a pipe needs no more room.
	return compiled(trimmed(p), v.Lanes), api.OK
}

// compiled returns the code of a valid pipe.
func compiled(p api.Pipe, lanes int) api.Code {
	l := newLayout(p)
	c := api.Code{W: p.W, H: p.H, Output: l.address(p.Inputs + len(p.Steps) - 1)}
	for n := range p.Inputs {
		c.Inputs = append(c.Inputs, l.address(n))
	}
	for _, r := range rounds(p) {
		wide := l.round(p, r)
		for first := 0; first < p.W*p.H; first += lanes {
			c.Instr = append(c.Instr, part(wide, first, lanes)...)
		}
	}
	return c
}

// part returns instructions for a machine with one lane for each pixel as those for the pixels of some lanes alone, from a first one on.
func part(wide []api.Instr, first, lanes int) []api.Instr {
	list := slices.Clone(wide)
	for i, instr := range list {
		if instr.At == nil {
			continue
		}
		at := slices.Repeat([]int{-1}, lanes)
		copy(at, instr.At[first:])
		list[i].At = at
	}
	return list
}

// layout is where the images of a pipe are in memory. Its instructions are for a machine with one lane for each pixel.
type layout struct {
	places map[int]int
	// plain is the image in which each pixel has its own number, from 1 on.
	plain api.Image
}

func newLayout(p api.Pipe) layout {
	plain := api.Image{W: p.W, H: p.H}
	for i := range p.W * p.H {
		plain.Pix = append(plain.Pix, i+1)
	}
	return layout{places: arrange(p).places, plain: plain}
}

// address returns where an image begins; -1 if it is not kept.
func (l layout) address(n int) int {
	place, ok := l.places[n]
	if !ok {
		return -1
	}
	return place * len(l.plain.Pix)
}

// addresses returns for each pixel the address of that pixel of an image whose number moved has there; -1 where moved has no pixel's number.
func (l layout) addresses(n int, moved api.Image) []int {
	list := make([]int, len(moved.Pix))
	for i, number := range moved.Pix {
		list[i] = -1
		if within(number, 1, len(moved.Pix)) {
			list[i] = l.address(n) + number - 1
		}
	}
	return list
}

// round returns the instructions of a round: those of its head, those that change the result by points, and one that stores it.
func (l layout) round(p api.Pipe, r round) []api.Instr {
	list := l.head(p.Steps[r[0]])
	for _, i := range r {
		if s := p.Steps[i]; s.Op == api.StepPoint {
			list = append(list, api.Instr{Op: api.CodePoint, D: left, A: left, Point: s.Point})
		}
	}
	return append(list, api.Instr{Op: api.CodeStore, A: left, At: l.addresses(r.result(p), l.plain)})
}

// head returns the instructions that compute the result of a head; of a StepPoint only its image.
func (l layout) head(s api.Step) []api.Instr {
	switch s.Op {
	case api.StepZip:
		return []api.Instr{l.load(left, s.A, l.plain, 0), l.load(right, s.B, l.plain, 0), zip(s.How)}
	case api.StepConvolve:
		return l.convolve(s)
	case api.StepDilate:
		return l.extremes(s, api.ZipMost, -api.MaxPix)
	case api.StepErode:
		return l.extremes(s, api.ZipLeast, api.MaxPix)
	}
	return []api.Instr{l.load(left, s.A, l.plain, 0)}
}

// convolve returns the instructions that add up the products of the factors.
func (l layout) convolve(s api.Step) []api.Instr {
	list := []api.Instr{{Op: api.CodeSet, D: left}}
	for i, factor := range s.Kernel.Taps {
		if factor == 0 {
			continue
		}
		one := s
		one.Kernel.Taps = make([]int, len(s.Kernel.Taps))
		one.Kernel.Taps[i] = 1
		list = append(list, l.load(right, s.A, l.moved(one), 0), api.Instr{Op: api.CodeAdd, D: left, A: right, Value: factor})
	}
	return list
}

// extremes returns the instructions that combine the values at all offsets of a shape; beyond the border there is a value that changes nothing.
func (l layout) extremes(s api.Step, how uint8, beyond int) []api.Instr {
	var list []api.Instr
	for i, in := range s.Shape.In {
		if !in {
			continue
		}
		one := s
		one.Shape.In = make([]bool, len(s.Shape.In))
		one.Shape.In[i] = true
		if list == nil {
			list = append(list, l.load(left, s.A, l.moved(one), beyond))
		} else {
			list = append(list, l.load(right, s.A, l.moved(one), beyond), zip(how))
		}
	}
	return list
}

// moved returns the numbers of the pixels as a step with a single offset moves them, so that layer 2 alone says where each pixel comes from.
func (l layout) moved(one api.Step) api.Image {
	one.A = 0
	m, _ := apply(one, []api.Image{l.plain})
	return m
}

// load returns the instruction that loads the pixels of an image that moved has the numbers of.
func (l layout) load(register, n int, moved api.Image, beyond int) api.Instr {
	return api.Instr{Op: api.CodeLoad, D: register, Value: beyond, At: l.addresses(n, moved)}
}

// zip returns the instruction that combines the two registers.
func zip(how uint8) api.Instr {
	return api.Instr{Op: api.CodeZip, D: left, A: left, B: right, How: how}
}
