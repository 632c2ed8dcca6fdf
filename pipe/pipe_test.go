package pipe_test

import (
	"slices"
	"testing"

	"sightbench/api"
	"sightbench/pipe"
)

// P3.1
func TestCheck(t *testing.T) {
	for _, p := range pool() {
		if e := pipe.Check(p); e != api.OK {
			t.Errorf("Check(%v): %v", p, e)
		}
	}
	twelve := newPipe(16, 16, 3)
	for i := range 12 {
		twelve.Steps = append(twelve.Steps, onZip(2+i, 0, 6))
	}
	for i, p := range []api.Pipe{
		twelve,
		newPipe(1, 16, 1, plus1(0)),
		newPipe(16, 1, 3, plus1(2)),
		newPipe(1, 1, 2, plus1(0), onZip(2, 1, 1), onZip(0, 3, 6), onZip(4, 4, 3)),
		newPipe(1, 1, 1, onConvolve(0, kernel(5, make([]int, 25)...), 1), onConvolve(1, kernel(1, factor, -factor, factor), 3)),
		newPipe(1, 1, 1, onDilate(0, shape(1, true)), onErode(1, shape(5, false, false, false, false, true))),
		newPipe(1, 1, 1, onPoint(0, point(-factor, -most, factor, -most, -most))),
	} {
		if e := pipe.Check(p); e != api.OK {
			t.Errorf("%d: %v", i, e)
		}
	}
}

// P3.1: fields that an operation does not need may be anything.
func TestCheckFieldsWithoutNeed(t *testing.T) {
	d := newDice(2)
	for op := uint8(1); op <= 5; op++ {
		p := newPipe(3, 2, 1, spoiled(d.step(1, op)))
		if e := pipe.Check(p); e != api.OK {
			t.Errorf("%v: %v", p, e)
		}
	}
}

// base is a valid pipe with two given images and each operation once, in the order of their numbers.
func base() api.Pipe {
	return newPipe(3, 2, 2,
		plus1(1),
		onZip(2, 0, api.ZipSum),
		onConvolve(3, kernel(3, 1, 2, 3), api.BorderNear),
		onDilate(4, shape(3, true, false, true)),
		onErode(5, shape(1, false, true, true)))
}

// invalidPipes returns pipes that are not valid for one reason each.
func invalidPipes() []api.Pipe {
	list := []api.Pipe{{}, newPipe(1, 1, 1), newPipe(17, 17, 1, plus1(0)), newPipe(over, over, over, plus1(0)), newPipe(least, least, least, plus1(0))}
	change := func(f func(p *api.Pipe)) { list = append(list, changed(base(), f)) }
	for _, n := range []int{0, -1, 17, least, over, 1<<32 + 1} {
		change(func(p *api.Pipe) { p.W = n })
		change(func(p *api.Pipe) { p.H = n })
	}
	for _, n := range []int{0, -1, 4, 1<<32 + 1, least, over} {
		change(func(p *api.Pipe) { p.Inputs = n })
	}
	for _, n := range []int{13, 100} {
		change(func(p *api.Pipe) { p.Steps = slices.Repeat([]api.Step{plus1(0)}, n) })
	}
	for i := range base().Steps {
		for _, op := range []uint8{0, 6, 7, 255} {
			change(func(p *api.Pipe) { p.Steps[i].Op = op })
		}
		for _, n := range []int{-1, 2 + i, 3 + i, 100, least, over, 1 << 32, -1 << 32} {
			change(func(p *api.Pipe) { p.Steps[i].A = n })
		}
	}
	for _, n := range []int{-1, 3, 4, 100, least, over, 1 << 32, -1 << 32} {
		change(func(p *api.Pipe) { p.Steps[1].B = n })
	}
	for _, n := range []uint8{0, 7, 255} {
		change(func(p *api.Pipe) { p.Steps[1].How = n })
	}
	for _, n := range []uint8{0, 4, 255} {
		change(func(p *api.Pipe) { p.Steps[2].Border = n })
	}
	for _, x := range invalidPoints() {
		change(func(p *api.Pipe) { p.Steps[0].Point = x })
	}
	for _, k := range []api.Kernel{{}, kernel(2, 1, 1), {W: 3, H: 1, Taps: []int{1, 2}}, kernel(1, factor+1), kernel(1, -factor-1), {W: -3, H: -1, Taps: []int{1, 2, 3}}, {W: over, H: over, Taps: []int{1}}, kernel(7, 1, 2, 3, 4, 5, 6, 7)} {
		change(func(p *api.Pipe) { p.Steps[2].Kernel = k })
	}
	for _, s := range []api.Shape{{}, shape(1, false), shape(3, false, false, false), shape(2, true, true), {W: 3, H: 3, In: []bool{true}}, {W: least, H: 3, In: []bool{true}}} {
		change(func(p *api.Pipe) { p.Steps[3].Shape = s })
		change(func(p *api.Pipe) { p.Steps[4].Shape = s })
	}
	return list
}

func invalidPoints() []api.Point {
	return []api.Point{
		{}, point(factor+1, 0, 1, 0, 0), point(-factor-1, 0, 1, 0, 0), point(least, 0, 1, 0, 0),
		point(1, most+1, 1, 0, 0), point(1, -most-1, 1, 0, 0), point(1, over, 1, 0, 0),
		point(1, 0, 0, 0, 0), point(1, 0, -1, 0, 0), point(1, 0, factor+1, 0, 0),
		point(1, 0, 1, 1, 0), point(1, 0, 1, -most-1, 0), point(1, 0, 1, 0, most+1), point(1, 0, 1, over, least),
	}
}

// P3.1
func TestCheckErrors(t *testing.T) {
	if e := pipe.Check(base()); e != api.OK {
		t.Fatal(e)
	}
	for _, p := range invalidPipes() {
		if e := pipe.Check(p); e != api.ErrPipe {
			t.Errorf("Check(%v): %v", p, e)
		}
	}
	for i, p := range []api.Pipe{
		changed(example(), func(p *api.Pipe) { p.Steps[0].A = 1 }),
		changed(example(), func(p *api.Pipe) { p.Steps[0].Op = 6 }),
		changed(example(), func(p *api.Pipe) { p.Steps = nil }),
		changed(example(), func(p *api.Pipe) { p.Steps[3].Op = 6 }),
	} {
		if e := pipe.Check(p); e != api.ErrPipe {
			t.Errorf("%d: %v", i, e)
		}
	}
}

// P3.1: a step that is not needed has to be valid, too.
func TestCheckStepWithoutNeed(t *testing.T) {
	if e := pipe.Check(newPipe(1, 1, 1, onPoint(0, api.Point{}), plus1(0))); e != api.ErrPipe {
		t.Error(e)
	}
}

// P3.1
func TestMeanExamples(t *testing.T) {
	two := newPipe(2, 1, 2, onZip(0, 1, api.ZipDifference))
	for i, x := range []struct {
		p    api.Pipe
		l    []api.Image
		want api.Image
	}{
		{example(), []api.Image{row(1, 2, 4, 9)}, row(4, 6, 14, 8)},
		{two, []api.Image{row(5, 7), row(1, 9)}, row(4, -2)},
		{with(two, onZip(2, 0, api.ZipProduct)), []api.Image{row(5, 7), row(1, 9)}, row(20, -14)},
		{with(two, plus1(1)), []api.Image{row(5, most), row(1, most)}, row(2, most)},
		{with(two, onZip(2, 2, api.ZipSum)), []api.Image{row(most, -most), row(-most, 9)}, row(most, -most)},
		{newPipe(1, 3, 1, onDilate(0, shape(1, false, false, true)), onErode(0, shape(1, true, true, true))), []api.Image{img(1, 5, 1, 4)}, img(1, 1, 1, 1)},
		{newPipe(1, 3, 1, onErode(0, shape(1, true, true, true)), onDilate(0, shape(1, false, false, true))), []api.Image{img(1, 5, 1, 4)}, img(1, -most, 5, 1)},
		{newPipe(3, 1, 1, onConvolve(0, kernel(3, 1, 0, -1), api.BorderNear)), []api.Image{row(1, 2, 3)}, row(1, 2, 1)},
		{newPipe(3, 1, 1, onConvolve(0, kernel(3, 1, 0, -1), api.BorderWrap)), []api.Image{row(1, 2, 3)}, row(-1, 2, -1)},
	} {
		if m, e := pipe.Mean(x.p, x.l); e != api.OK || !equal(m, x.want) {
			t.Errorf("%d: %v, %v", i, m, e)
		}
	}
}

// P3.1
func TestMean(t *testing.T) {
	d := newDice(3)
	for _, p := range append(pool(), allWirings()...) {
		l := d.images(p)
		if m, e := pipe.Mean(p, l); e != api.OK || !equal(m, meaning(p, l, last(p))) {
			t.Fatalf("Mean(%v, %v): %v, %v", p, l, m, e)
		}
	}
}

// badLists returns lists of images that do not fit to a pipe (or to code) for images of 3 * 2 pixels, with two given images.
func badLists() [][]api.Image {
	good := img(3, 1, 2, 3, 4, 5, 6)
	list := [][]api.Image{nil, {}, {good}, {good, good, good}}
	for _, bad := range []api.Image{{}, img(2, 1, 2, 3, 4, 5, 6), row(1, 2, 3), img(3, 1, 2, 3, 4, 5, 6, 7, 8, 9), img(3, 1, 2, 3, 4, 5, most+1), img(3, -most-1, 2, 3, 4, 5, 6), {W: 3, H: 2}, {W: 3, H: 2, Pix: make([]int, 7)}, {W: 3, H: 2, Pix: make([]int, 5, 6)}, {W: -3, H: -2, Pix: make([]int, 6)}} {
		list = append(list, []api.Image{good, bad}, []api.Image{bad, good})
	}
	return list
}

// P3.1: also images that no step uses have to fit.
func TestMeanErrors(t *testing.T) {
	for _, p := range []api.Pipe{base(), newPipe(3, 2, 2, plus1(1)), newPipe(3, 2, 2, plus1(0))} {
		for _, l := range badLists() {
			if m, e := pipe.Mean(p, l); e != api.ErrArg || !isZeroImage(m) {
				t.Errorf("Mean for %v: %v, %v", l, m, e)
			}
		}
	}
}
