package pipe

import "sightbench/api"

// round is the numbers of a head and of the carried steps that follow it.
type round []int

// rounds returns the rounds of a valid pipe.
func rounds(p api.Pipe) []round {
	counts := uses(p)
	var list []round
	// The index of the round by the number of the image that one of its steps makes.
	made := make(map[int]int)
	for i, s := range p.Steps {
		n, isResult := made[s.A]
		if s.Op == api.StepPoint && isResult && counts[s.A] == 1 {
			list[n] = append(list[n], i)
		} else {
			n = len(list)
			list = append(list, round{i})
		}
		made[p.Inputs+i] = n
	}
	return list
}

// result returns the number of the image that is the result of a round.
func (r round) result(p api.Pipe) int { return p.Inputs + r[len(r)-1] }

// uses returns for each image that is used how many steps use it.
func uses(p api.Pipe) map[int]int {
	counts := make(map[int]int)
	for _, s := range p.Steps {
		for _, n := range used(s) {
			counts[n]++
		}
	}
	return counts
}

// Length returns the instructions that a pipe needs at most for a number of lanes.
func Length(p api.Pipe, lanes int) (int, api.Errno) {
	if e := Check(p); e != api.OK {
		return 0, e
	}
	if !within(lanes, 1, api.MaxLanes) {
		return 0, api.ErrArg
	}
	sum := 0
	for _, r := range rounds(p) {
		sum += headLength(p.Steps[r[0]]) + len(r) - 1
	}
	return (p.W*p.H + lanes - 1) / lanes * sum, api.OK
}

// headLength returns the instructions that a head needs for as many pixels as there are lanes.
func headLength(s api.Step) int {
	switch s.Op {
	case api.StepPoint:
		return 3
	case api.StepZip:
		return 4
	case api.StepConvolve:
		return 2 + 2*count(s.Kernel.Taps, func(factor int) bool { return factor != 0 })
	}
	return 2 * count(s.Shape.In, func(in bool) bool { return in })
}

// count returns how many entries of a list are as asked for.
func count[T any](list []T, asked func(x T) bool) int {
	n := 0
	for _, x := range list {
		if asked(x) {
			n++
		}
	}
	return n
}

// Room returns the words of memory that a pipe needs.
func Room(p api.Pipe) (int, api.Errno) {
	if e := Check(p); e != api.OK {
		return 0, e
	}
	return p.W * p.H * arrange(p).size, api.OK
}

// store is the places of images in memory; each place has the room of one image.
type store struct {
	// places has the place of each image that is kept, also when it is no longer in use.
	places map[int]int
	// counts has for each image that is still used how many steps to come use it.
	counts map[int]int
	size   int
}

// arrange gives places to the images of a valid pipe that are kept. As an image gets the first place that is free, there are never more places than images in use at once.
func arrange(p api.Pipe) store {
	m := store{places: make(map[int]int), counts: uses(p)}
	last := p.Inputs + len(p.Steps) - 1
	m.counts[last]++ // by whoever takes the result
	for n := range p.Inputs {
		if m.counts[n] > 0 {
			m.put(n)
		}
	}
	for _, r := range rounds(p) {
		m.put(r.result(p))
		for _, n := range used(p.Steps[r[0]]) {
			m.release(n)
		}
	}
	return m
}

// put gives an image the first place that no image in use has.
func (m *store) put(n int) {
	var taken [api.MaxInputs + api.MaxSteps]bool
	for other := range m.counts {
		if place, ok := m.places[other]; ok {
			taken[place] = true
		}
	}
	place := 0
	for taken[place] {
		place++
	}
	m.places[n] = place
	m.size = max(m.size, place+1)
}

// release counts that a step has used an image.
func (m *store) release(n int) {
	m.counts[n]--
	if m.counts[n] == 0 {
		delete(m.counts, n)
	}
}
