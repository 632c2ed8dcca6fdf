package pipe_test

import (
	"testing"

	"sightbench/api"
	"sightbench/image"
	"sightbench/pipe"
)

// run returns what the code of a pipe gives.
func run(t *testing.T, p api.Pipe, l []api.Image) api.Image {
	t.Helper()
	v := vector(4, 2, theRoom(p))
	return must[api.Image](t)(pipe.Run(v, compiled(t, p, v), l))
}

// P3.8: points and sums of turned images are the turned results.
func TestTurns(t *testing.T) {
	d := newDice(12)
	for range 300 {
		p := d.pipe(5, api.StepPoint, api.StepZip)
		turned := p
		turned.W, turned.H = p.H, p.W
		l := d.images(p)
		var turns []api.Image
		for _, m := range l {
			turns = append(turns, must[api.Image](t)(image.Turn(m)))
		}
		want := must[api.Image](t)(image.Turn(mean(t, p, l)))
		if got := mean(t, turned, turns); !equal(got, want) {
			t.Fatalf("Mean of %v for %v: %v instead of %v", turned, turns, got, want)
		}
		if got := run(t, turned, turns); !equal(got, want) {
			t.Fatalf("Run of %v for %v: %v instead of %v", turned, turns, got, want)
		}
	}
}

// ordered returns two images of which the first is nowhere greater.
func (d dice) ordered(w, h int) (api.Image, api.Image) {
	a, b := d.image(w, h), d.image(w, h)
	for i := range a.Pix {
		a.Pix[i], b.Pix[i] = min(a.Pix[i], b.Pix[i]), max(a.Pix[i], b.Pix[i])
	}
	return a, b
}

// P3.8: greater images have greater results.
func TestOrder(t *testing.T) {
	d := newDice(13)
	for range 300 {
		p := d.pipe(5, api.StepPoint, api.StepZip, api.StepDilate, api.StepErode)
		for i := range p.Steps {
			s := &p.Steps[i]
			s.Point.Mul = max(s.Point.Mul, -s.Point.Mul)
			s.How = uint8(api.ZipLeast + s.How%2)
		}
		var low, high []api.Image
		for range p.Inputs {
			a, b := d.ordered(p.W, p.H)
			low, high = append(low, a), append(high, b)
		}
		a, b := mean(t, p, low), mean(t, p, high)
		c, e := run(t, p, low), run(t, p, high)
		for i := range a.Pix {
			if a.Pix[i] > b.Pix[i] || c.Pix[i] > e.Pix[i] {
				t.Fatalf("%v for %v and %v: %v, %v, %v, %v", p, low, high, a, b, c, e)
			}
		}
	}
}
