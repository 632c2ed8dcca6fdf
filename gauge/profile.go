package gauge

import (
	"iter"

	"sightbench/api"
	"sightbench/exact"
)

// CheckProfile returns ErrProfile unless a profile is valid.
func CheckProfile(p []int) api.Errno {
	if !within(len(p), 2, api.MaxProfile) {
		return api.ErrProfile
	}
	for _, v := range p {
		if !within(v, 0, api.MaxValue) {
			return api.ErrProfile
		}
	}
	return api.OK
}

// First returns the first bright place of a profile from an index on.
func First(p []int, threshold, from int) (api.Frac, api.Errno) {
	return nearest(p, threshold, from, 1)
}

// Last returns the last bright place of a profile up to an index.
func Last(p []int, threshold, to int) (api.Frac, api.Errno) {
	return nearest(p, threshold, to, -1)
}

// Upper returns the upper profile.
func Upper(p []int, noise int) ([]int, api.Errno) {
	return envelope(p, noise, func(v int) int { return min(api.MaxValue, v+noise) })
}

// Lower returns the lower profile.
func Lower(p []int, noise int) ([]int, api.Errno) {
	return envelope(p, noise, func(v int) int { return max(0, v-noise) })
}

// nearest returns the bright place that is met first on the way from an index to one end: to the last index with the step 1, to the first one with -1.
func nearest(p []int, threshold, at, step int) (api.Frac, api.Errno) {
	if e := CheckProfile(p); e != api.OK {
		return api.Frac{}, e
	}
	if !isThreshold(threshold) || !within(at, 0, len(p)-1) {
		return api.Frac{}, api.ErrArg
	}
	for i, v := range along(p, at, step) {
		if v < threshold {
			continue
		}
		if i == at {
			return exact.Make(i, 1)
		}
		// The value before this one is dark, so the threshold is reached on the way from it.
		rise := v - p[i-step]
		return exact.Make(i*rise-step*(v-threshold), rise)
	}
	return api.Frac{}, api.ErrNone
}

// along yields the indices and values of a profile from an index on: to the last one with the step 1, to the first one with -1.
func along(p []int, at, step int) iter.Seq2[int, int] {
	return func(yield func(int, int) bool) {
		for i := at; i >= 0 && i < len(p); i += step {
			if !yield(i, p[i]) {
				return
			}
		}
	}
}

// envelope returns the profile of the values to which a noise may move those of a profile.
func envelope(p []int, noise int, move func(v int) int) ([]int, api.Errno) {
	if e := CheckProfile(p); e != api.OK {
		return nil, e
	}
	if !isNoise(noise) {
		return nil, api.ErrArg
	}
	moved := make([]int, len(p))
	for i, v := range p {
		moved[i] = move(v)
	}
	return moved, api.OK
}
