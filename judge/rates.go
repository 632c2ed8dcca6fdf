package judge

import (
	"sort"

	"sightbench/api"
)

// AtMost reports whether the chance of at most k hits of n is at most a limit.
func AtMost(n, k, j int, limit api.Frac) (bool, api.Errno) {
	if !areTrials(n, k) || !within(j, 0, rates) || !isChance(limit) {
		return false, api.ErrArg
	}
	return isRare(n, k, j, limit), api.OK
}

// Bound returns the least rate for which AtMost is true.
func Bound(n, k int, limit api.Frac) (int, api.Errno) {
	if !areTrials(n, k) || !isChance(limit) {
		return 0, api.ErrArg
	}
	// The chance falls with the rate, so that it is at most the limit from the least such rate on.
	return sort.Search(rates, func(j int) bool { return isRare(n, k, j, limit) }), api.OK
}

// areTrials reports whether there may be n trials, of which k are hits.
func areTrials(n, k int) bool { return within(n, 0, api.MaxSample) && within(k, 0, n) }

// isRare reports whether the chance of at most k hits of n is at most a limit.
func isRare(n, k, j int, limit api.Frac) bool {
	part := ways(n, k, j)
	part.multiply(limit.Den)
	all := newLong(limit.Num)
	repeat(n, all.multiply, rates)
	return part.compare(all) <= 0
}

// ways returns in how many of the 256^n ways of n trials, each of which has 256 ways, j of them hits, there are at most k hits.
func ways(n, k, j int) long {
	// After i steps term is C(n, i) * j^i, and sum is the ways of at most i hits without the factors of the n - i trials that are no hits in all of them.
	sum, term := newLong(1), newLong(1)
	for i := 1; i <= k; i++ {
		term.multiply((n - i + 1) * j)
		term.divide(i)
		sum.multiply(rates - j)
		sum.add(term)
	}
	repeat(n-k, sum.multiply, rates-j)
	return sum
}
