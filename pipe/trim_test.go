package pipe_test

import (
	"testing"

	"sightbench/api"
	"sightbench/pipe"
)

// P3.2
func TestTrimExamples(t *testing.T) {
	spot := shape(1, true)
	short := changed(example(), func(p *api.Pipe) { p.Steps = p.Steps[:2] })
	longer := func(unused api.Step) api.Pipe {
		return changed(short, func(p *api.Pipe) { p.Steps = []api.Step{p.Steps[0], unused, p.Steps[1]} })
	}
	for i, x := range []struct{ p, want api.Pipe }{
		{longer(onDilate(1, spot)), short},
		{longer(plus1(0)), short},
		{example(), example()},
		{short, short},
		{newPipe(2, 1, 3, plus1(0), plus1(2)), newPipe(2, 1, 3, plus1(2))},
		{newPipe(2, 1, 3, plus1(0), plus1(3), plus1(4), plus1(2)), newPipe(2, 1, 3, plus1(2))},
		{newPipe(2, 1, 1, plus1(0), plus1(0), plus1(0), onZip(3, 1, 2)), newPipe(2, 1, 1, plus1(0), plus1(0), onZip(2, 1, 2))},
		{newPipe(2, 1, 1, plus1(0), plus1(0), plus1(0), onZip(1, 3, 2), plus1(2), onZip(0, 4, 3)), newPipe(2, 1, 1, plus1(0), plus1(0), onZip(1, 2, 2), onZip(0, 3, 3))},
		{newPipe(2, 1, 1, plus1(0), plus1(0), onZip(2, 2, 2)), newPipe(2, 1, 1, plus1(0), onZip(1, 1, 2))},
		// What is the B of another step than StepZip is not used.
		{newPipe(2, 1, 1, plus1(0), api.Step{Op: api.StepErode, A: 0, B: 1, Shape: spot}), newPipe(2, 1, 1, onErode(0, spot))},
	} {
		if got, e := pipe.Trim(x.p); e != api.OK || !equalPipes(got, x.want) {
			t.Errorf("%d: %v, %v", i, got, e)
		}
	}
}

// isNeededStep reports whether a step is the last one, or is used by a needed step.
func isNeededStep(p api.Pipe, i int) bool {
	if i == len(p.Steps)-1 {
		return true
	}
	for _, user := range usersOf(p, p.Inputs+i) {
		if isNeededStep(p, user) {
			return true
		}
	}
	return false
}

// theTrimmed returns a pipe from which, one after the other from the last one on, the steps are taken away that are not needed.
func theTrimmed(p api.Pipe) api.Pipe {
	t := changed(p, func(p *api.Pipe) {})
	for i := range t.Steps {
		if t.Steps[i].Op != api.StepZip {
			t.Steps[i].B = 0
		}
	}
	for i := len(t.Steps) - 1; i >= 0; i-- {
		if isNeededStep(t, i) {
			continue
		}
		t.Steps = append(t.Steps[:i], t.Steps[i+1:]...)
		for j := range t.Steps {
			s := &t.Steps[j]
			if s.A > t.Inputs+i {
				s.A--
			}
			if s.Op == api.StepZip && s.B > t.Inputs+i {
				s.B--
			}
		}
	}
	return t
}

// P3.2, P3.6
func TestTrim(t *testing.T) {
	d := newDice(4)
	less := 0
	for _, p := range append(pool(), allWirings()...) {
		got, e := pipe.Trim(p)
		if e != api.OK || !equalPipes(got, theTrimmed(p)) {
			t.Fatalf("Trim(%v): %v, %v", p, got, e)
		}
		if again, e := pipe.Trim(got); e != api.OK || !equalPipes(again, got) {
			t.Fatalf("Trim(%v): %v, %v", got, again, e)
		}
		l := d.images(p)
		if !equal(mean(t, got, l), mean(t, p, l)) {
			t.Fatalf("Mean of %v for %v", p, l)
		}
		room := must[int](t)(pipe.Room(got))
		if room > must[int](t)(pipe.Room(p)) {
			t.Fatalf("Room of %v", p)
		}
		for lanes := 1; lanes <= 16; lanes += 5 {
			n := must[int](t)(pipe.Length(got, lanes))
			if n > must[int](t)(pipe.Length(p, lanes)) {
				t.Fatalf("Length of %v", p)
			}
		}
		if len(got.Steps) < len(p.Steps) {
			less++
		}
	}
	if less < 1000 {
		t.Errorf("only %d pipes with steps that are not needed", less)
	}
}

// P3.6: steps that nobody uses, whatever they do and wherever they are, do not change the meaning.
func TestStepsWithoutNeed(t *testing.T) {
	d := newDice(5)
	for range 500 {
		p := d.pipe(4, allOps()...)
		if len(p.Steps) == 12 {
			continue
		}
		l := d.images(p)
		want := mean(t, p, l)
		i := d.Intn(len(p.Steps))
		longer := changed(p, func(p *api.Pipe) {
			unused := d.step(p.Inputs+i, allOps()...)
			p.Steps = append(p.Steps[:i:i], append([]api.Step{unused}, p.Steps[i:]...)...)
			for j := i + 1; j < len(p.Steps); j++ {
				s := &p.Steps[j]
				if s.A >= p.Inputs+i {
					s.A++
				}
				if s.Op == api.StepZip && s.B >= p.Inputs+i {
					s.B++
				}
			}
		})
		if !equal(mean(t, longer, l), want) {
			t.Fatalf("Mean of %v with a step of no use at %d", p, i)
		}
		a, b := must[api.Pipe](t)(pipe.Trim(p)), must[api.Pipe](t)(pipe.Trim(longer))
		if !equalPipes(a, b) {
			t.Fatalf("Trim of %v with a step of no use at %d", p, i)
		}
	}
}
