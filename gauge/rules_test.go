package gauge_test

import (
	"slices"
	"testing"

	"sightbench/api"
	"sightbench/gauge"
)

// roomy returns a copy of a list with more memory behind its end, and all of that memory.
func roomy(list []int) (short, long []int) {
	long = append(slices.Clone(list), slices.Repeat([]int{77}, 20)...)
	return long[:len(list)], long
}

// P1 (R3): arguments are only read, also the memory behind the end of a list, and nothing is kept from one call to the next.
func TestMemoryOfProfiles(t *testing.T) {
	d := newDice(40)
	for range 300 {
		g := d.gauge(9)
		p, all := roomy(d.profile(d.length()))
		before := slices.Clone(all)
		own := before[:len(p)]
		i := d.Intn(len(p))
		for range 2 {
			first, last := placeOf(gauge.First(p, g.Threshold, i)), placeOf(gauge.Last(p, g.Threshold, i))
			rise, fall := of(gauge.Rise(p, g.Threshold, i, g.Noise)), of(gauge.Fall(p, g.Threshold, i, g.Noise))
			width, length := of(gauge.Width(p, g.Threshold, g.Noise)), measure(g, p)
			if gauge.CheckProfile(p) != api.OK || gauge.CheckGauge(g) != api.OK || !slices.Equal(all, before) {
				t.Fatal("changed", p)
			}
			if first != placeOf(gauge.First(own, g.Threshold, i)) || last != placeOf(gauge.Last(own, g.Threshold, i)) || length != measure(g, own) {
				t.Fatal("kept", p)
			}
			if rise != of(gauge.Rise(own, g.Threshold, i, g.Noise)) || fall != of(gauge.Fall(own, g.Threshold, i, g.Noise)) || width != of(gauge.Width(own, g.Threshold, g.Noise)) {
				t.Fatal("kept", p)
			}
		}
	}
}

// placed is a place that a call returned.
type placed struct {
	x api.Frac
	e api.Errno
}

func placeOf(x api.Frac, e api.Errno) placed { return placed{x, e} }

// P1 (R3): what is written into a result changes neither arguments nor later results.
func TestMemoryOfEnvelopes(t *testing.T) {
	d := newDice(41)
	for range 300 {
		p, all := roomy(d.profile(d.length()))
		before := slices.Clone(all)
		noise := d.from(0, 2)
		up, low := must[[]int](t)(gauge.Upper(p, noise)), must[[]int](t)(gauge.Lower(p, noise))
		for _, l := range [][]int{up, low} {
			l = l[:cap(l)]
			for i := range l {
				l[i] = -1
			}
		}
		if !slices.Equal(all, before) {
			t.Fatal("shared", p)
		}
		up, low = must[[]int](t)(gauge.Upper(p, noise)), must[[]int](t)(gauge.Lower(p, noise))
		if !slices.Equal(up, upper(p, noise)) || !slices.Equal(low, lower(p, noise)) {
			t.Fatal("kept", p)
		}
	}
}

// P1 (R3)
func TestMemoryOfImages(t *testing.T) {
	d := newDice(42)
	for range 300 {
		m := d.image(d.from(2, api.MaxSide), d.from(1, api.MaxSide))
		pix, all := roomy(m.Pix)
		before := slices.Clone(all)
		m.Pix = pix
		l := must[[]api.View](t)(gauge.Views(m, 100, 5))
		want := slices.Clone(l)
		c, e := gauge.Line(m, 100, 5)
		l = l[:cap(l)]
		for i := range l {
			l[i] = api.View{X: -1}
		}
		if again := must[[]api.View](t)(gauge.Views(m, 100, 5)); !slices.Equal(again, want) || !slices.Equal(all, before) {
			t.Fatal("changed or kept", m)
		}
		if again, f := gauge.Line(m, 100, 5); again != c || f != e {
			t.Fatal("kept", m)
		}
	}
}

// P1 (R7): no call panics, whatever the arguments are.
func TestExtremes(t *testing.T) {
	d := newDice(43)
	numbers := []int{least, least + 1, -most - 1, -most, -1 << 32, -1000000, -2, -1, 0, 1, 2, 3, 16, 60, 64, 255, 256, 1000000, 1 << 32, most - 1, most, most + 1, over - 1, over}
	n := func() int { return numbers[d.Intn(len(numbers))] }
	f := func() api.Frac { return frac(n(), n()) }
	s := func() api.Span { return span(f(), f()) }
	some := func() api.Span {
		if d.Intn(4) == 0 {
			return s()
		}
		return wholes(max(-most, min(n(), 0)), min(most, max(n(), 0)))
	}
	for range 20000 {
		var list []int
		for range d.Intn(6) {
			list = append(list, n())
		}
		g := api.Gauge{Threshold: n(), Noise: n(), Scale: s(), Lo: f(), Hi: f()}
		m := api.Image{W: n(), H: n(), Pix: list}
		for _, p := range [][]int{list, seen()} {
			gauge.CheckProfile(p)
			gauge.First(p, n(), n())
			gauge.Last(p, n(), n())
			gauge.Upper(p, n())
			gauge.Lower(p, n())
			gauge.Rise(p, n(), n(), n())
			gauge.Fall(p, n(), n(), n())
			gauge.Width(p, n(), n())
			gauge.Measure(g, p)
			gauge.Measure(known(4, 6), p)
		}
		gauge.CheckGauge(g)
		gauge.Decide(some(), f(), f())
		gauge.Decide(some(), some().Lo, some().Hi)
		gauge.Views(m, n(), n())
		gauge.Line(m, n(), n())
		gauge.Line(picture([]int{0, 120}, list, list), n(), n())
		gauge.Line(picture([]int{0, 120}, []int{0, 90}), n(), n())
		gauge.Corner(camera(some(), some()), camera(some(), some()))
		gauge.Corner(camera(s(), some()), camera(some(), s()))
	}
}
