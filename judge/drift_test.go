package judge_test

import (
	"math/big"
	"testing"

	"sightbench/api"
	"sightbench/judge"
)

// take returns the state after one more round.
func take(t *testing.T, test api.Test, d api.Drift, hit bool) api.Drift {
	t.Helper()
	next, e := judge.Take(test, d, hit)
	if e != api.OK {
		t.Fatal(test, d, hit, e)
	}
	return next
}

// isTaken fails the test unless a round changes a state as the document says.
func isTaken(t *testing.T, test api.Test, d api.Drift, hit bool) api.Drift {
	t.Helper()
	want := api.Drift{Hits: d.Hits, Rounds: d.Rounds + 1}
	if hit {
		want.Hits++
	}
	want.Alarm = d.Alarm || isRaised(test, want.Hits, want.Rounds)
	next := take(t, test, d, hit)
	if next != want {
		t.Fatal(test, d, hit, next, want)
	}
	return next
}

// P8.7: the document's examples, and tests that raise the alarm just so.
func TestTakeExamples(t *testing.T) {
	for _, x := range []struct {
		p, q, num, den int
		rounds         string
		alarm          int
	}{
		{64, 128, 1, 4, "xx", 2}, {64, 128, 1, 4, "x.x", 0}, {64, 128, 1, 4, "x.xx", 4}, {64, 128, 1, 4, "x..xx", 0}, {64, 128, 1, 4, "x..xxx", 6}, {64, 128, 1, 4, "xx........", 2},
		{64, 128, 1, 2, "x", 1}, {64, 128, 1, 3, "x", 0}, {64, 128, 99, 100, ".", 0}, {1, 255, 1, 255, "x", 1}, {1, 255, 1, 256, "x", 0}, {1, 255, 1, 1 << 30, "xxxx", 4}, {254, 255, 254, 255, "x", 1}, {254, 255, 253, 255, "x", 0},
		{64, 192, 1, 100, "xxxxx", 5}, {64, 192, 1, 81, "xxxx", 4}, {64, 192, 1, 82, "xxxx", 0},
	} {
		test, d, at := api.Test{P: x.p, Q: x.q, Alpha: reduced(x.num, x.den)}, judge.Start(), 0
		for i, c := range x.rounds {
			d = isTaken(t, test, d, c == 'x')
			if d.Alarm && at == 0 {
				at = i + 1
			}
		}
		if at != x.alarm {
			t.Error(x, at)
		}
	}
	if d := judge.Start(); d != (api.Drift{}) {
		t.Error(d)
	}
}

// P8.7: random tests and valid states, also those that no rounds lead to.
func TestTake(t *testing.T) {
	d := newDice(50)
	var raised [2]int
	for range 20000 {
		test, from := d.test(), api.Drift{Rounds: d.from(0, []int{3, 20, 499}[d.Intn(3)]), Alarm: d.Intn(8) == 0}
		from.Hits = d.from(0, from.Rounds)
		if e := judge.CheckTest(test); e != api.OK {
			t.Fatal(test, e)
		}
		if next := isTaken(t, test, from, d.Intn(2) == 0); !from.Alarm && next.Alarm {
			raised[1]++
		} else if !from.Alarm {
			raised[0]++
		}
	}
	if min(raised[0], raised[1]) < 2000 {
		t.Error(raised)
	}
	for _, test := range []api.Test{{P: 1, Q: 2, Alpha: reduced(1, 1<<30)}, {P: 254, Q: 255, Alpha: reduced(1<<30-1, 1<<30)}, {P: 1, Q: 255, Alpha: reduced(1, 2)}} {
		for _, hits := range []int{0, 1, 250, 498, 499} {
			isTaken(t, test, api.Drift{Hits: hits, Rounds: 499}, true)
			isTaken(t, test, api.Drift{Hits: hits, Rounds: 499}, false)
		}
	}
}

// P8.7: for each number of rounds, the least number of hits that raises the alarm, and one less.
func TestAlarms(t *testing.T) {
	d := newDice(51)
	for range 300 {
		test, n := d.test(), d.from(1, 500)
		for h := 1; h <= n; h++ {
			if isRaised(test, h, n) {
				isTaken(t, test, api.Drift{Hits: h - 1, Rounds: n - 1}, true)
				if h < n {
					isTaken(t, test, api.Drift{Hits: h, Rounds: n - 1}, false)
				}
				if h > 1 {
					isTaken(t, test, api.Drift{Hits: h - 2, Rounds: n - 1}, true)
				}
				break
			}
		}
	}
}

// P8.12: the alarm stays.
func TestAlarmStays(t *testing.T) {
	test := api.Test{P: 100, Q: 200, Alpha: reduced(1, 10)}
	d := judge.Start()
	for range 8 {
		d = take(t, test, d, true)
	}
	if !d.Alarm {
		t.Fatal(d)
	}
	for range 492 {
		d = take(t, test, d, false)
		if !d.Alarm {
			t.Fatal(d)
		}
	}
	if _, e := judge.Take(test, d, false); e != api.ErrFull {
		t.Error(e)
	}
}

// falseAlarm returns the greatest chance that a test ever raises the alarm within so many rounds, if each is a hit with a chance of at most P / 256 that may depend on whatever happened before: such a chance is greatest if the chance of each hit is 0 or P / 256.
func falseAlarm(t *testing.T, test api.Test, rounds int) *big.Rat {
	p := big.NewRat(int64(test.P), 256)
	chances := make([]*big.Rat, rounds+1)
	for h := range chances {
		chances[h] = new(big.Rat)
	}
	for n := rounds - 1; n >= 0; n-- {
		before := make([]*big.Rat, n+1)
		for h := range before {
			after := [2]*big.Rat{chances[h], chances[h+1]}
			for i := range after {
				if take(t, test, api.Drift{Hits: h, Rounds: n}, i == 1).Alarm {
					after[i] = big.NewRat(1, 1)
				}
			}
			mixed := new(big.Rat).Sub(after[1], after[0])
			mixed.Mul(mixed, p).Add(mixed, after[0])
			if mixed.Cmp(after[0]) < 0 {
				mixed = after[0]
			}
			before[h] = mixed
		}
		chances = before
	}
	return chances[0]
}

// P8.12: the chance of a false alarm is at most Alpha, however the rounds depend on those before.
func TestFalseAlarms(t *testing.T) {
	d := newDice(52)
	tests := []api.Test{{P: 64, Q: 128, Alpha: reduced(1, 4)}, {P: 64, Q: 192, Alpha: reduced(1, 100)}, {P: 1, Q: 255, Alpha: reduced(1, 255)}, {P: 128, Q: 129, Alpha: reduced(9, 10)}, {P: 10, Q: 12, Alpha: reduced(1, 3)}}
	for range 25 {
		tests = append(tests, d.test())
	}
	some := 0
	for _, test := range tests {
		chance := falseAlarm(t, test, 60)
		if chance.Cmp(rat(test.Alpha)) > 0 {
			t.Error(test, chance.FloatString(9))
		}
		if chance.Sign() > 0 {
			some++
		}
	}
	if some < 10 {
		t.Error(some)
	}
}

// P8.7: each error, and with several of them the first one.
func TestDriftErrors(t *testing.T) {
	check := func(test api.Test, d api.Drift, want api.Errno) {
		t.Helper()
		for _, hit := range []bool{false, true} {
			next, e := judge.Take(test, d, hit)
			fails(t, "Take", next == api.Drift{}, e, want)
		}
	}
	good := api.Test{P: 64, Q: 128, Alpha: reduced(1, 4)}
	for _, test := range badTests() {
		if e := judge.CheckTest(test); e != api.ErrTest {
			t.Error(test, e)
		}
		check(test, judge.Start(), api.ErrTest)
		check(test, api.Drift{Hits: 1}, api.ErrTest)
		check(test, api.Drift{Rounds: 500}, api.ErrTest)
	}
	for _, d := range badDrifts() {
		check(good, d, api.ErrArg)
	}
	for _, d := range []api.Drift{{Rounds: 500}, {Rounds: 500, Hits: 500}, {Rounds: 500, Hits: 3, Alarm: true}} {
		check(good, d, api.ErrFull)
	}
	for _, test := range []api.Test{{P: 1, Q: 2, Alpha: reduced(1, 1<<30)}, {P: 254, Q: 255, Alpha: reduced(1, 2)}, {P: 1, Q: 255, Alpha: reduced(1<<30-1, 1<<30)}} {
		if e := judge.CheckTest(test); e != api.OK {
			t.Error(test, e)
		}
	}
}
