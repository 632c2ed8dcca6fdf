package judge_test

import (
	"slices"
	"testing"

	"sightbench/api"
	"sightbench/judge"
)

// isThreshold fails the test unless the threshold, and its cost, are those that the document says.
func isThreshold(t *testing.T, good, bad []int, miss, alarm int) (int, int) {
	t.Helper()
	at, cost, e := judge.Threshold(good, bad, miss, alarm)
	if want, least := thresholdOf(good, bad, miss, alarm); e != api.OK || at != want || cost != least {
		t.Fatal(good, bad, miss, alarm, at, cost, e, want, least)
	}
	return at, cost
}

// P8.4: the document's examples, and cases with few scores.
func TestThresholdExamples(t *testing.T) {
	for _, x := range []struct {
		good, bad               []int
		miss, alarm, at, lowest int
	}{
		{[]int{5, 7, 9}, []int{2, 6}, 10, 1, 7, 1}, {[]int{5, 7, 9}, []int{2, 6}, 10, 100, 5, 10}, {nil, nil, 10, 1, 0, 0}, {[]int{}, []int{}, 0, 0, 0, 0},
		{[]int{4}, nil, 3, 5, 4, 0}, {nil, []int{4}, 3, 5, 5, 0}, {nil, []int{4}, 0, 5, 4, 0}, {[]int{4}, []int{4}, 3, 5, 4, 3}, {[]int{4}, []int{4}, 5, 3, 5, 3}, {[]int{4}, []int{4}, 3, 3, 4, 3},
		{[]int{-3, -1}, []int{-2}, 1, 1, -3, 1}, {[]int{-3, -1}, []int{-2}, 2, 1, -1, 1}, {[]int{8, 1}, []int{0, 9}, 1, 0, 10, 0}, {[]int{3, 3}, []int{2, 2}, 10000, 10000, 3, 0},
		{[]int{top}, []int{top, -top}, 2, 1, top + 1, 1}, {[]int{-top}, []int{top}, 1, 1, -top, 1}, {[]int{-top}, []int{top}, 3, 2, top + 1, 2},
	} {
		if at, cost := isThreshold(t, x.good, x.bad, x.miss, x.alarm); at != x.at || cost != x.lowest {
			t.Error(x, at, cost)
		}
	}
}

// P8.4, P8.10: random scores; no threshold whatever has a lesser cost, and no lesser one among the scores the same.
func TestThreshold(t *testing.T) {
	d := newDice(20)
	for i := range 3000 {
		width := []int{3, 20, 1000, top}[d.Intn(4)]
		most := []int{1, 5, 100}[d.Intn(3)]
		good, bad := d.numbers(d.from(0, most), -width, width), d.numbers(d.from(0, most), -width, width)
		high := []int{1, 10, 10000}[d.Intn(3)]
		miss, alarm := d.from(0, high), d.from(0, high)
		_, cost := isThreshold(t, good, bad, miss, alarm)
		for range 10 {
			if at := d.from(-width-2, width+2); costOf(good, bad, miss, alarm, at) < cost {
				t.Fatal(good, bad, miss, alarm, at, cost)
			}
		}
		if i%10 == 0 {
			all := slices.Repeat([]int{d.from(-top, top)}, 100)
			isThreshold(t, all, d.numbers(100, -top, top), 10000, 10000)
			isThreshold(t, d.numbers(100, -top, top), all, 10000, 10000)
		}
	}
}

// P8.4: lists that are too long, scores and costs outside of their ranges.
func TestThresholdErrors(t *testing.T) {
	check := func(good, bad []int, miss, alarm int) {
		t.Helper()
		at, cost, e := judge.Threshold(good, bad, miss, alarm)
		fails(t, "Threshold", at == 0 && cost == 0, e, api.ErrArg)
	}
	check(make([]int, 101), nil, 1, 1)
	check(nil, make([]int, 101), 1, 1)
	check(make([]int, 101), make([]int, 101), 1, 1)
	check(make([]int, 5000), make([]int, 100), 1, 1)
	for _, n := range beyond(-top, top) {
		for i := range 3 {
			list := []int{1, 2, 3}
			list[i] = n
			check(list, nil, 1, 1)
			check(nil, list, 1, 1)
			check([]int{5}, list, 1, 1)
			check(list, []int{5}, 1, 1)
		}
	}
	for _, n := range beyond(0, 10000) {
		check([]int{1}, []int{2}, n, 1)
		check([]int{1}, []int{2}, 1, n)
		check(nil, nil, n, 0)
		check(nil, nil, 0, n)
	}
}
