package lens

import "sightbench/api"

// Gray returns the Gray code of a number.
func Gray(k int) (int, api.Errno) {
	if !within(0, 1<<api.MaxBits-1, k) {
		return 0, api.ErrArg
	}
	return gray(k), api.OK
}

// Stripes returns the numbers that a stripe may be, in increasing order.
func Stripes(on, off []int, noise int) ([]int, api.Errno) {
	if !within(1, api.MaxBits, len(on), len(off)) || len(on) != len(off) {
		return nil, api.ErrArg
	}
	if !within(0, api.MaxValue, on...) || !within(0, api.MaxValue, off...) || !within(0, api.MaxNoise, noise) {
		return nil, api.ErrArg
	}
	ones, zeros := brighter(on, off, 2*noise), brighter(off, on, 2*noise)
	var list []int
	for k := range 1 << len(on) {
		// The bits that are neither are open.
		if gray(k)&ones == ones && gray(k)&zeros == 0 {
			list = append(list, k)
		}
	}
	return list, api.OK
}

// brighter returns the number with a bit, the highest first, wherever a value is above that of the other list by more than most.
func brighter(list, other []int, most int) int {
	bits := 0
	for i, v := range list {
		bits *= 2
		if v-other[i] > most {
			bits++
		}
	}
	return bits
}

// gray returns the Gray code of a number that is not below 0.
func gray(k int) int { return k ^ k/2 }
