package pipe

import (
	"slices"

	"sightbench/api"
)

// Trim returns a pipe without the steps that are not needed.
func Trim(p api.Pipe) (api.Pipe, api.Errno) {
	if e := Check(p); e != api.OK {
		return api.Pipe{}, e
	}
	return trimmed(p), api.OK
}

// trimmed returns a valid pipe without the steps that are not needed.
func trimmed(p api.Pipe) api.Pipe {
	isNeeded := needed(p)
	t := api.Pipe{W: p.W, H: p.H, Inputs: p.Inputs}
	// The new numbers of the images, by their old ones.
	var numbers []int
	for n := range p.Inputs {
		numbers = append(numbers, n)
	}
	for i, s := range p.Steps {
		numbers = append(numbers, p.Inputs+len(t.Steps))
		if isNeeded[p.Inputs+i] {
			t.Steps = append(t.Steps, renumbered(s, numbers))
		}
	}
	return t
}

// needed reports for each image of a valid pipe whether the result of the last step depends on it.
func needed(p api.Pipe) []bool {
	list := make([]bool, p.Inputs+len(p.Steps))
	list[len(list)-1] = true
	for i, s := range slices.Backward(p.Steps) {
		if !list[p.Inputs+i] {
			continue
		}
		for _, n := range used(s) {
			list[n] = true
		}
	}
	return list
}

// renumbered returns a copy of a step, in memory of its own, that uses images by their new numbers.
func renumbered(s api.Step, numbers []int) api.Step {
	s.A = numbers[s.A]
	if s.Op == api.StepZip {
		s.B = numbers[s.B]
	} else {
		s.B = 0
	}
	s.Kernel.Taps = slices.Clone(s.Kernel.Taps)
	s.Shape.In = slices.Clone(s.Shape.In)
	return s
}
