package gauge_test

import (
	"math/big"
	"testing"

	"sightbench/api"
	"sightbench/gauge"
)

// known returns the gauge of the document's examples, with a tolerance.
func known(lo, hi int) api.Gauge {
	return api.Gauge{Threshold: 60, Noise: 10, Scale: only(2), Lo: whole(lo), Hi: whole(hi)}
}

// gauge returns a valid gauge with parts of up to limit; the tolerance is any.
func (d dice) gauge(limit int) api.Gauge {
	scale := span(reduced(d.from(1, limit), d.from(1, limit)), reduced(d.from(1, limit), d.from(1, limit)))
	if !inOrder(rat(scale.Lo), rat(scale.Hi)) {
		scale.Lo, scale.Hi = scale.Hi, scale.Lo
	}
	tolerance := d.span(limit)
	return api.Gauge{Threshold: d.from(1, api.MaxValue), Noise: d.noise(), Scale: scale, Lo: tolerance.Lo, Hi: tolerance.Hi}
}

// verdict returns the verdict for a span and a tolerance.
func verdict(s api.Span, lo, hi api.Frac) uint8 {
	switch {
	case inOrder(rat(lo), rat(s.Lo)) && inOrder(rat(s.Hi), rat(hi)):
		return api.Pass
	case !inOrder(rat(s.Lo), rat(hi)) || !inOrder(rat(lo), rat(s.Hi)):
		return api.Fail
	}
	return api.Undecided
}

// P5.3
func TestDecide(t *testing.T) {
	for _, x := range []struct {
		s      api.Span
		lo, hi int
		want   uint8
	}{
		{wholes(2, 4), 2, 4, api.Pass}, {wholes(2, 4), 1, 5, api.Pass}, {wholes(2, 4), 2, 5, api.Pass}, {wholes(2, 4), 1, 4, api.Pass},
		{wholes(2, 4), 5, 6, api.Fail}, {wholes(2, 4), -1, 1, api.Fail}, {wholes(2, 4), 5, 5, api.Fail},
		{wholes(2, 4), 4, 6, api.Undecided}, {wholes(2, 4), 0, 2, api.Undecided}, {wholes(2, 4), 3, 3, api.Undecided}, {wholes(2, 4), 3, 4, api.Undecided}, {wholes(2, 4), 2, 3, api.Undecided}, {wholes(2, 4), 2, 2, api.Undecided},
		{only(3), 3, 3, api.Pass}, {only(3), 4, 4, api.Fail}, {only(3), 2, 2, api.Fail},
		{wholes(-most, most), -most, most, api.Pass}, {wholes(-most, most), 0, 0, api.Undecided}, {only(most), -most, most - 1, api.Fail},
	} {
		if v, e := gauge.Decide(x.s, whole(x.lo), whole(x.hi)); v != x.want || e != api.OK {
			t.Error(x, v, e)
		}
	}
	third := frac(most-1, 3)
	if v, e := gauge.Decide(span(third, third), third, frac(most, 2)); v != api.Pass || e != api.OK {
		t.Error(v, e)
	}
	d := newDice(10)
	for range 3000 {
		limit := d.from(1, 5)
		s, tolerance := d.span(limit), d.span(limit)
		if v, e := gauge.Decide(s, tolerance.Lo, tolerance.Hi); v != verdict(s, tolerance.Lo, tolerance.Hi) || e != api.OK {
			t.Fatal(s, tolerance, v, e)
		}
	}
}

// P5.3
func TestDecideErrors(t *testing.T) {
	for _, s := range invalidSpans() {
		fails[uint8](t, "Decide", api.ErrArg)(gauge.Decide(s, whole(0), whole(1)))
		fails[uint8](t, "Decide", api.ErrArg)(gauge.Decide(only(5), s.Lo, s.Hi))
	}
	for _, x := range invalid() {
		fails[uint8](t, "Decide", api.ErrArg)(gauge.Decide(only(5), x, whole(9)))
		fails[uint8](t, "Decide", api.ErrArg)(gauge.Decide(only(5), whole(0), x))
	}
	fails[uint8](t, "Decide", api.ErrArg)(gauge.Decide(only(5), whole(6), whole(4)))
}

// changed returns the gauge of the examples after a change.
func changed(change func(g *api.Gauge)) api.Gauge {
	g := known(4, 6)
	change(&g)
	return g
}

// badGauges returns gauges that are not valid.
func badGauges() []api.Gauge {
	list := []api.Gauge{
		{},
		changed(func(g *api.Gauge) { g.Lo = whole(7) }),
		changed(func(g *api.Gauge) { g.Lo, g.Hi = frac(1, 2), frac(1, 3) }),
		changed(func(g *api.Gauge) { g.Scale.Lo = whole(0) }),
		changed(func(g *api.Gauge) { g.Scale.Lo = whole(-1) }),
		changed(func(g *api.Gauge) { g.Scale = wholes(-3, -2) }),
		changed(func(g *api.Gauge) { g.Scale = only(0) }),
		changed(func(g *api.Gauge) { g.Scale.Lo = whole(3) }),
		changed(func(g *api.Gauge) { g.Scale.Hi = whole(1000001) }),
		changed(func(g *api.Gauge) { g.Scale.Hi = frac(2000002, 999999) }),
		changed(func(g *api.Gauge) { g.Scale.Hi = frac(2000003, 1000001) }),
		changed(func(g *api.Gauge) { g.Scale.Lo = frac(1, 1000001) }),
		changed(func(g *api.Gauge) { g.Scale = only(1000001) }),
		changed(func(g *api.Gauge) { g.Lo = whole(-1000001) }),
		changed(func(g *api.Gauge) { g.Lo = frac(1, 1000001) }),
		changed(func(g *api.Gauge) { g.Hi = whole(1000001) }),
		changed(func(g *api.Gauge) { g.Lo, g.Hi = whole(-1000002), whole(-1000001) }),
		changed(func(g *api.Gauge) { g.Lo, g.Hi = whole(1000001), whole(1000002) }),
		changed(func(g *api.Gauge) { g.Hi = frac(6000007, 1000001) }),
		changed(func(g *api.Gauge) { g.Lo = whole(-most) }),
		changed(func(g *api.Gauge) { g.Hi = whole(most) }),
	}
	for _, n := range badThresholds() {
		list = append(list, changed(func(g *api.Gauge) { g.Threshold = n }))
	}
	for _, n := range badNoises() {
		list = append(list, changed(func(g *api.Gauge) { g.Noise = n }))
	}
	for _, s := range invalidSpans() {
		list = append(list, changed(func(g *api.Gauge) { g.Scale = s }))
	}
	for _, x := range invalid() {
		list = append(list, changed(func(g *api.Gauge) { g.Lo = x }), changed(func(g *api.Gauge) { g.Hi = x }), changed(func(g *api.Gauge) { g.Scale.Lo = x }), changed(func(g *api.Gauge) { g.Scale.Hi = x }))
	}
	return list
}

// P5.3
func TestCheckGauge(t *testing.T) {
	for _, g := range badGauges() {
		if e := gauge.CheckGauge(g); e != api.ErrBad {
			t.Error(g, e)
		}
	}
	tiny := frac(1, 1000000)
	for _, g := range []api.Gauge{
		known(4, 6), known(4, 4), known(-5, -5), known(-1000000, 1000000), known(-1000000, -1000000), known(1000000, 1000000), known(0, 0),
		changed(func(g *api.Gauge) { g.Threshold, g.Noise = 1, 0 }),
		changed(func(g *api.Gauge) { g.Threshold, g.Noise = 255, 64 }),
		changed(func(g *api.Gauge) { g.Scale = span(tiny, whole(1000000)) }),
		changed(func(g *api.Gauge) { g.Scale = span(tiny, tiny) }),
		changed(func(g *api.Gauge) { g.Scale = span(tiny, frac(999999, 1000000)) }),
		changed(func(g *api.Gauge) { g.Lo, g.Hi = frac(-999999, 1000000), frac(999999, 1000000) }),
	} {
		if e := gauge.CheckGauge(g); e != api.OK {
			t.Error(g, e)
		}
	}
}

// measured is what Measure returned.
type measured struct {
	s api.Span
	v uint8
	e api.Errno
}

func measure(g api.Gauge, p []int) measured {
	s, v, e := gauge.Measure(g, p)
	return measured{s, v, e}
}

// wanted returns what Measure has to return for a valid gauge and a valid profile.
func wanted(g api.Gauge, p []int) measured {
	up, low := reals(upper(p, g.Noise)).width(g.Threshold), reals(lower(p, g.Noise)).width(g.Threshold)
	switch {
	case up == nil:
		return measured{s: only(0), v: api.Fail}
	case low == nil:
		return measured{s: only(0), v: api.Undecided}
	}
	s, e := fit(times(low, rat(g.Scale.Lo)), times(up, rat(g.Scale.Hi)))
	return measured{s, verdict(s, g.Lo, g.Hi), e}
}

// P5.3
func TestMeasureByHand(t *testing.T) {
	length := span(frac(23, 5), frac(59, 10))
	wide := span(whole(1), whole(3))
	scaled := span(frac(23, 10), frac(177, 20))
	for i, x := range []struct {
		g    api.Gauge
		p    []int
		want measured
	}{
		{known(4, 6), seen(), measured{s: length, v: api.Pass}},
		{known(5, 6), seen(), measured{s: length, v: api.Undecided}},
		{known(6, 7), seen(), measured{s: length, v: api.Fail}},
		{known(0, 4), seen(), measured{s: length, v: api.Fail}},
		{known(-9, -1), seen(), measured{s: length, v: api.Fail}},
		{known(4, 5), seen(), measured{s: length, v: api.Undecided}},
		{changed(func(g *api.Gauge) { g.Scale = wide }), seen(), measured{s: scaled, v: api.Undecided}},
		{changed(func(g *api.Gauge) { g.Scale, g.Lo, g.Hi = wide, frac(23, 10), frac(177, 20) }), seen(), measured{s: scaled, v: api.Pass}},
		// The upper profile is dark, bright in one place, and bright where the lower one is dark.
		{known(0, 6), []int{49, 49}, measured{s: only(0), v: api.Fail}},
		{known(0, 6), []int{49, 50}, measured{s: only(0), v: api.Undecided}},
		{known(0, 6), []int{69, 69, 69}, measured{s: only(0), v: api.Undecided}},
		{known(-2, -1), []int{69, 69, 69}, measured{s: only(0), v: api.Undecided}},
		{known(0, 6), []int{70, 49}, measured{s: span(whole(0), frac(40, 21)), v: api.Pass}},
	} {
		if got := measure(x.g, x.p); got != x.want {
			t.Error(i, got, x.want)
		}
	}
}

// P5.3
func TestMeasure(t *testing.T) {
	d := newDice(11)
	var counts [4]int
	profiles(12, 800, func(p []int) {
		g := d.gauge([]int{3, 100, 1000000}[d.Intn(3)])
		want := wanted(g, p)
		if got := measure(g, p); got != want {
			t.Fatal(g, p, got, want)
		}
		counts[want.v]++
	})
	if min(counts[1], counts[2], counts[3]) < 20 {
		t.Error("too few of some verdict", counts)
	}
}

// P5.3
func TestMeasureErrors(t *testing.T) {
	for _, g := range badGauges() {
		for _, p := range [][]int{seen(), {0, 0}, nil, {5, -1}} {
			if got := measure(g, p); got != (measured{e: api.ErrBad}) {
				t.Error(g, p, got)
			}
		}
	}
	for _, p := range badProfiles() {
		if got := measure(known(4, 6), p); got != (measured{e: api.ErrProfile}) {
			t.Error(p, got)
		}
	}
}

// around returns the gauge with a tolerance close to what it measures for a profile, so that all verdicts occur.
func (d dice) around(g api.Gauge, p []int) api.Gauge {
	s, _, _ := gauge.Measure(g, p)
	low, high := d.near(s.Lo), d.near(s.Hi)
	if tolerance, e := fit(low, high); e == api.OK {
		g.Lo, g.Hi = tolerance.Lo, tolerance.Hi
	}
	return g
}

// near returns x or a number close to it; its parts are small enough for a gauge.
func (d dice) near(x api.Frac) *big.Rat {
	if x.Num > 300000 || x.Den > 300000 {
		less := x.Den/500 + 1
		x = reduced(x.Num/less, x.Den/less)
	}
	if d.Intn(2) == 0 {
		return rat(x)
	}
	return plus(rat(x), ratio(d.from(-4, 4), 3))
}

// P5.7: Pass and Fail are right for each profile that the noise allows, and each scale.
func TestRight(t *testing.T) {
	d := newDice(13)
	var counts [4]int
	for range 1500 {
		p := d.profile(d.length())
		g := d.around(d.gauge(9), p)
		got := measure(g, p)
		if got.e != api.OK {
			t.Fatal(g, got)
		}
		counts[got.v]++
		for range 5 {
			width := d.allowed(p, g.Noise).width(g.Threshold)
			for _, scale := range points(g.Scale) {
				if !fine(g, got, width, scale) {
					t.Fatal(g, p, got, width, scale)
				}
			}
		}
	}
	if min(counts[1], counts[2], counts[3]) < 50 {
		t.Error("too few of some verdict", counts)
	}
}

// fine reports whether a verdict is right for a width (or nil, if nothing is bright), and a scale.
func fine(g api.Gauge, got measured, width, scale *big.Rat) bool {
	within := width != nil && inOrder(rat(g.Lo), times(width, scale), rat(g.Hi))
	switch got.v {
	case api.Pass:
		return within && has(got.s, times(width, scale))
	case api.Fail:
		return !within
	}
	return true
}

// P5.7: less noise changes Undecided only, and with a wider tolerance Pass stays.
func TestVerdictsStay(t *testing.T) {
	d := newDice(14)
	for range 4000 {
		p := d.profile(d.length())
		g := d.around(d.gauge(9), p)
		got := measure(g, p)
		less := g
		less.Noise = d.from(0, g.Noise)
		if now := measure(less, p); got.e != api.OK || now.e != api.OK || got.v != api.Undecided && now.v != got.v {
			t.Fatal(g, less, p, got, now)
		}
		wider := d.wider(g)
		if now := measure(wider, p); now.e != api.OK || got.v == api.Pass && now.v != api.Pass {
			t.Fatal(g, wider, p, got, now)
		}
	}
}

// wider returns a gauge with a tolerance that is as wide or wider.
func (d dice) wider(g api.Gauge) api.Gauge {
	down, up := whole(g.Lo.Num/g.Lo.Den-1), whole(g.Hi.Num/g.Hi.Den+1)
	g.Lo = []api.Frac{g.Lo, down, whole(-1000000)}[d.Intn(3)]
	g.Hi = []api.Frac{g.Hi, up, whole(1000000)}[d.Intn(3)]
	return g
}
