package gauge

import (
	"sightbench/api"
	"sightbench/exact"
)

// Rise returns the span of the first bright place from an index on.
func Rise(p []int, threshold, from, noise int) (api.Span, api.Errno) {
	return enclosed(p, noise, func(p []int) (api.Frac, api.Errno) { return First(p, threshold, from) })
}

// Fall returns the span of the last bright place up to an index.
func Fall(p []int, threshold, to, noise int) (api.Span, api.Errno) {
	return enclosed(p, noise, func(p []int) (api.Frac, api.Errno) { return Last(p, threshold, to) })
}

// Width returns the span of the distance from the first to the last bright place.
func Width(p []int, threshold, noise int) (api.Span, api.Errno) {
	return enclosed(p, noise, func(p []int) (api.Frac, api.Errno) { return extent(p, threshold) })
}

// extent returns the distance from the first to the last bright place of a profile.
func extent(p []int, threshold int) (api.Frac, api.Errno) {
	first, e := First(p, threshold, 0)
	if e != api.OK {
		return api.Frac{}, e
	}
	// Where there is a first bright place, there is a last one.
	last, _ := Last(p, threshold, len(p)-1)
	return exact.Sub(last, first)
}

// enclosed returns the span between what is read from the upper profile and what is read from the lower one. What is read from any profile that the noise allows has to be between them.
func enclosed(p []int, noise int, read func(p []int) (api.Frac, api.Errno)) (api.Span, api.Errno) {
	upper, e := Upper(p, noise)
	if e != api.OK {
		return api.Span{}, e
	}
	lower, _ := Lower(p, noise)
	// The lower profile is bright only where the upper one is, so it says if there is nothing to be read.
	least, e := read(lower)
	if e != api.OK {
		return api.Span{}, e
	}
	most, _ := read(upper)
	return exact.Join(point(least), point(most))
}
