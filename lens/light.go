package lens

import (
	"sort"

	"sightbench/api"
)

// CheckLight returns ErrLight unless a light is valid.
func CheckLight(l api.Light) api.Errno {
	if !within(1, api.MaxExposure, l.Exposure) || !within(0, api.MaxDark, l.Dark) || !within(0, api.MaxNoise, l.Noise) {
		return api.ErrLight
	}
	return api.OK
}

// Value returns the ideal value of a radiance.
func Value(l api.Light, radiance int) (int, api.Errno) {
	if e := CheckLight(l); e != api.OK {
		return 0, e
	}
	if !within(0, api.MaxLight, radiance) {
		return 0, api.ErrArg
	}
	return ideal(l, radiance), api.OK
}

// Radiances returns the least and the greatest radiance that a value may be.
func Radiances(l api.Light, value int) (lo, hi int, e api.Errno) {
	if e := CheckLight(l); e != api.OK {
		return 0, 0, e
	}
	if !within(0, api.MaxValue, value) {
		return 0, 0, api.ErrArg
	}
	// More radiance never has a lesser value.
	lo = sort.Search(api.MaxLight+1, func(r int) bool { return ideal(l, r) >= value-l.Noise })
	beyond := sort.Search(api.MaxLight+1, func(r int) bool { return ideal(l, r) > value+l.Noise })
	if lo == beyond {
		return 0, 0, api.ErrNone
	}
	return lo, beyond - 1, api.OK
}

// Expose returns the greatest exposure with which the ideal value of a radiance, and the noise, are together at most MaxValue.
func Expose(l api.Light, radiance int) (int, api.Errno) {
	if e := CheckLight(l); e != api.OK {
		return 0, e
	}
	if !within(0, api.MaxLight, radiance) {
		return 0, api.ErrArg
	}
	most := sort.Search(api.MaxExposure, func(n int) bool {
		longer := api.Light{Exposure: n + 1, Dark: l.Dark}
		return ideal(longer, radiance)+l.Noise > api.MaxValue
	})
	// With the limits that api sets, the least exposure is never too much.
	if most == 0 {
		return 0, api.ErrNone
	}
	return most, api.OK
}

// ideal returns the ideal value of a radiance with a valid light.
func ideal(l api.Light, radiance int) int {
	return min(api.MaxValue, l.Dark+l.Exposure*radiance/256)
}
