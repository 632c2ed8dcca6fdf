package pipe_test

import (
	"slices"
	"testing"

	"sightbench/api"
	"sightbench/pipe"
)

// usesOf returns the images that a step uses.
func usesOf(s api.Step) map[int]bool {
	images := map[int]bool{s.A: true}
	if s.Op == api.StepZip {
		images[s.B] = true
	}
	return images
}

// usersOf returns the steps that use an image.
func usersOf(p api.Pipe, n int) []int {
	var list []int
	for i, s := range p.Steps {
		if usesOf(s)[n] {
			list = append(list, i)
		}
	}
	return list
}

func isCarried(p api.Pipe, i int) bool {
	s := p.Steps[i]
	return s.Op == api.StepPoint && s.A >= p.Inputs && len(usersOf(p, s.A)) == 1
}

// theRounds returns the rounds of a pipe: each head, and on from user to user as long as it is carried.
func theRounds(p api.Pipe) [][]int {
	var list [][]int
	for head := range p.Steps {
		if isCarried(p, head) {
			continue
		}
		round := []int{head}
		for i := head; ; i = round[len(round)-1] {
			users := usersOf(p, p.Inputs+i)
			if len(users) != 1 || !isCarried(p, users[0]) {
				break
			}
			round = append(round, users[0])
		}
		list = append(list, round)
	}
	return list
}

// theRoom returns the room of a pipe: of each round all the images that are in use are counted.
func theRoom(p api.Pipe) int {
	rounds := theRounds(p)
	resultOf := func(round []int) int { return p.Inputs + round[len(round)-1] }
	inUse := func(k int) int {
		var exist []int
		for n := range p.Inputs {
			if len(usersOf(p, n)) > 0 {
				exist = append(exist, n)
			}
		}
		for _, round := range rounds[:k] {
			exist = append(exist, resultOf(round))
		}
		count := 1
		for _, n := range exist {
			if n == last(p) || slices.ContainsFunc(rounds[k:], func(round []int) bool { return usesOf(p.Steps[round[0]])[n] }) {
				count++
			}
		}
		return count
	}
	greatest := 0
	for k := range rounds {
		greatest = max(greatest, inUse(k))
	}
	return greatest * p.W * p.H
}

// theLength returns the length of a pipe.
func theLength(p api.Pipe, lanes int) int {
	sum := 0
	for i, s := range p.Steps {
		factors, offsets := 0, 0
		for _, n := range s.Kernel.Taps {
			if n != 0 {
				factors++
			}
		}
		for _, in := range s.Shape.In {
			if in {
				offsets++
			}
		}
		switch {
		case isCarried(p, i):
			sum++
		default:
			sum += map[uint8]int{api.StepPoint: 3, api.StepZip: 4, api.StepConvolve: 2 + 2*factors, api.StepDilate: 2 * offsets, api.StepErode: 2 * offsets}[s.Op]
		}
	}
	passes := 0
	for pixels := p.W * p.H; pixels > 0; pixels -= lanes {
		passes++
	}
	return passes * sum
}

// P3.2
func TestRoomExamples(t *testing.T) {
	spot := shape(1, true)
	for i, x := range []struct {
		p    api.Pipe
		want int
	}{
		{example(), 12},
		{newPipe(1, 1, 1, plus1(0)), 2},
		{newPipe(16, 16, 3, plus1(0)), 512},
		{newPipe(5, 3, 3, onZip(0, 2, 1)), 45},
		{newPipe(5, 3, 3, onZip(2, 2, 1)), 30},
		{newPipe(1, 1, 1, plus1(0), plus1(1), plus1(2)), 2},
		// The image 0 is used once more at the end.
		{newPipe(1, 1, 1, onDilate(0, spot), onDilate(1, spot), onZip(2, 0, 1)), 3},
		{newPipe(1, 1, 1, onDilate(0, spot), onDilate(1, spot), onDilate(2, spot)), 2},
		// The image 1 is used late, and takes room from the beginning.
		{newPipe(1, 1, 2, onDilate(0, spot), onDilate(2, spot), onZip(3, 1, 1)), 3},
		{newPipe(1, 1, 2, onDilate(0, spot), onZip(2, 0, 1), onZip(3, 1, 1)), 4},
		// Results that nobody uses are in use in their own round alone; that of the last step stays.
		{newPipe(1, 1, 1, plus1(0), plus1(0), plus1(0), plus1(0)), 2},
		{newPipe(1, 1, 1, onDilate(0, spot), plus1(0), plus1(0), plus1(1)), 3},
		{newPipe(1, 1, 2, onDilate(0, spot), onZip(1, 0, 1), plus1(2)), 4},
		// Three results of one image wait for one another.
		{newPipe(2, 2, 1, onDilate(0, spot), onDilate(0, spot), onDilate(0, spot), onZip(1, 2, 1), onZip(4, 3, 1)), 16},
		{newPipe(2, 2, 1, onDilate(0, spot), onDilate(0, spot), onDilate(0, spot), onZip(1, 2, 1), onZip(4, 3, 1), onZip(0, 5, 1)), 20},
	} {
		if n, e := pipe.Room(x.p); n != x.want || e != api.OK {
			t.Errorf("%d: %v, %v", i, n, e)
		}
	}
	wide := newPipe(16, 16, 1)
	for range 11 {
		wide.Steps = append(wide.Steps, onDilate(0, spot))
	}
	for i := range wide.Steps {
		if n, e := pipe.Room(changed(wide, func(p *api.Pipe) { p.Steps = append(p.Steps[:i+1], onZip(1+i, 0, 1)) })); n != 768 || e != api.OK {
			t.Errorf("%d: %v, %v", i, n, e)
		}
	}
}

// P3.2
func TestRoom(t *testing.T) {
	for _, p := range append(pool(), allWirings()...) {
		if n, e := pipe.Room(p); n != theRoom(p) || e != api.OK {
			t.Fatalf("Room(%v): %v, %v instead of %v", p, n, e, theRoom(p))
		}
	}
}

// P3.2
func TestLengthExamples(t *testing.T) {
	of := func(s ...api.Step) api.Pipe { return newPipe(5, 1, 1, s...) }
	for i, x := range []struct {
		p     api.Pipe
		lanes int
		want  int
	}{
		{example(), 4, 14},
		{example(), 3, 28},
		{example(), 1, 56},
		{example(), 16, 14},
		{of(plus1(0)), 5, 3},
		{of(plus1(0), plus1(1), plus1(2)), 5, 5},
		{of(plus1(0), plus1(0)), 4, 12},
		{of(onZip(0, 0, 1)), 5, 4},
		// A sum of an image with itself uses it once, so that the step after it is not the only one that does.
		{of(plus1(0), onZip(1, 1, 1), plus1(2)), 5, 8},
		{of(plus1(0), onZip(1, 1, 1), plus1(1)), 5, 10},
		{of(onConvolve(0, kernel(3, 0, 0, 0), 1)), 5, 2},
		{of(onConvolve(0, kernel(3, 0, -1, 0), 1)), 5, 4},
		{of(onConvolve(0, kernel(3, 7, -1, factor), 1), plus1(1)), 5, 9},
		{of(onDilate(0, shape(5, false, false, false, true, false))), 5, 2},
		{of(onErode(0, shape(5, true, true, false, true, true)), plus1(1), plus1(0)), 2, 36},
	} {
		if n, e := pipe.Length(x.p, x.lanes); n != x.want || e != api.OK {
			t.Errorf("%d: %v, %v", i, n, e)
		}
	}
}

// P3.2
func TestLength(t *testing.T) {
	for _, p := range append(pool(), allWirings()...) {
		for lanes := 1; lanes <= 16; lanes++ {
			if n, e := pipe.Length(p, lanes); n != theLength(p, lanes) || e != api.OK {
				t.Fatalf("Length(%v, %d): %v, %v instead of %v", p, lanes, n, e, theLength(p, lanes))
			}
		}
	}
}

// P3.2
func TestLengthErrors(t *testing.T) {
	for _, lanes := range []int{0, -1, 17, 1 << 32, least, over} {
		if n, e := pipe.Length(example(), lanes); n != 0 || e != api.ErrArg {
			t.Errorf("%d: %v, %v", lanes, n, e)
		}
	}
}
