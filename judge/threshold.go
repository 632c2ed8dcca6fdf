package judge

import (
	"cmp"
	"slices"

	"sightbench/api"
)

// Threshold returns the threshold with the least cost, and that cost.
func Threshold(good, bad []int, miss, alarm int) (int, int, api.Errno) {
	if !areScores(good) || !areScores(bad) || !within(miss, 0, api.MaxCost) || !within(alarm, 0, api.MaxCost) {
		return 0, 0, api.ErrArg
	}
	list := slices.Concat(good, bad)
	if len(list) == 0 {
		return 0, 0, api.OK
	}
	list = append(list, slices.Max(list)+1)
	cost := func(t int) int {
		return miss*passing(bad, t) + alarm*(len(good)-passing(good, t))
	}
	best := slices.MinFunc(list, func(t, u int) int {
		return cmp.Or(cmp.Compare(cost(t), cost(u)), cmp.Compare(t, u))
	})
	return best, cost(best), api.OK
}

// areScores reports whether a list may be the scores of some parts.
func areScores(list []int) bool {
	return len(list) <= api.MaxSample && areWithin(list, -maxScore, maxScore)
}

// passing returns how many scores pass a threshold.
func passing(list []int, threshold int) int {
	n := 0
	for _, score := range list {
		if score >= threshold {
			n++
		}
	}
	return n
}
