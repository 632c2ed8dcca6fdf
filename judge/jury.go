package judge

import (
	"slices"

	"sightbench/api"
)

// maxRevisions is how often the verdicts of a jury are made again.
const maxRevisions = 10

// Reconcile returns the verdicts of some inspectors, and their weights.
func Reconcile(labels [][]uint8) ([]uint8, []int, api.Errno) {
	if !areLabels(labels) {
		return nil, nil, api.ErrArg
	}
	weights := slices.Repeat([]int{1}, len(labels))
	verdicts := votes(labels, weights)
	for range maxRevisions {
		before := verdicts
		weights = agreements(labels, verdicts)
		verdicts = votes(labels, weights)
		if slices.Equal(verdicts, before) {
			break
		}
	}
	return verdicts, weights, api.OK
}

// areLabels reports whether lists may be the labels of a jury.
func areLabels(labels [][]uint8) bool {
	if !within(len(labels), 1, api.MaxJury) || len(labels[0]) > api.MaxSample {
		return false
	}
	for _, list := range labels {
		if len(list) != len(labels[0]) || slices.ContainsFunc(list, func(label uint8) bool { return label > api.Fail }) {
			return false
		}
	}
	return true
}

// votes returns the verdict of the vote for each part.
func votes(labels [][]uint8, weights []int) []uint8 {
	verdicts := make([]uint8, len(labels[0]))
	for part := range verdicts {
		var sums [api.Fail + 1]int
		for i, list := range labels {
			sums[list[part]] += weights[i]
		}
		verdicts[part] = greater(sums[api.Pass], sums[api.Fail])
	}
	return verdicts
}

// greater returns the verdict of the greater one of two sums.
func greater(pass, fail int) uint8 {
	switch {
	case pass > fail:
		return api.Pass
	case pass < fail:
		return api.Fail
	}
	return api.Undecided
}

// agreements returns the weights that follow from verdicts.
func agreements(labels [][]uint8, verdicts []uint8) []int {
	weights := make([]int, len(labels))
	for i, list := range labels {
		n := 0
		for part, label := range list {
			switch {
			case label == 0 || verdicts[part] == api.Undecided:
			case label == verdicts[part]:
				n++
			default:
				n--
			}
		}
		weights[i] = max(n, 0)
	}
	return weights
}
