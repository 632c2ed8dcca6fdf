package judge

import "sightbench/api"

// CheckTest returns ErrTest unless a sequential test is valid.
func CheckTest(t api.Test) api.Errno {
	if t.P < 1 || t.P >= t.Q || t.Q >= rates || !isChance(t.Alpha) {
		return api.ErrTest
	}
	return api.OK
}

// Start returns the state of a sequential test with no rounds.
func Start() api.Drift { return api.Drift{} }

// Take returns the state after one more round.
func Take(t api.Test, d api.Drift, hit bool) (api.Drift, api.Errno) {
	if e := CheckTest(t); e != api.OK {
		return api.Drift{}, e
	}
	if !isDrift(d) {
		return api.Drift{}, api.ErrArg
	}
	if d.Rounds == api.MaxRounds {
		return api.Drift{}, api.ErrFull
	}
	d.Rounds++
	if hit {
		d.Hits++
	}
	d.Alarm = d.Alarm || raises(t, d)
	return d, api.OK
}

// isDrift reports whether the state of a test is valid.
func isDrift(d api.Drift) bool {
	return 0 <= d.Hits && d.Hits <= d.Rounds && d.Rounds <= api.MaxRounds
}

// raises reports whether a test raises the alarm in a state.
func raises(t api.Test, d api.Drift) bool {
	return weighed(t.Q, d, t.Alpha.Num).compare(weighed(t.P, d, t.Alpha.Den)) >= 0
}

// weighed returns a factor times how likely the rounds of a state are for a rate, in parts of 256 for each round.
func weighed(rate int, d api.Drift, factor int) long {
	w := newLong(factor)
	repeat(d.Hits, w.multiply, rate)
	repeat(d.Rounds-d.Hits, w.multiply, rates-rate)
	return w
}
