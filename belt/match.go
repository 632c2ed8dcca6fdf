package belt

import (
	"slices"

	"sightbench/api"
)

// Match returns all assignments of the parts of two stations.
func Match(b api.Belt, first, second []int) ([][]int, api.Errno) {
	if e := CheckBelt(b); e != api.OK {
		return nil, e
	}
	if max(len(first), len(second)) > api.MaxParts {
		return nil, api.ErrMany
	}
	if !areCounts(first) || !areCounts(second) {
		return nil, api.ErrArg
	}
	var all [][]int
	chosen := make([]int, len(second))
	var assign func(part, from int)
	assign = func(part, from int) {
		if part == len(second) {
			all = append(all, slices.Clone(chosen))
			return
		}
		for i := from; i < len(first); i++ {
			// The part before has the index before from. Gaps that agree add up to gaps that agree, so that no other part has to be looked at.
			if part > 0 && !agree(b, first[i]-first[from-1], second[part]-second[part-1]) {
				continue
			}
			chosen[part] = i
			assign(part+1, i+1)
		}
	}
	assign(0, 0)
	if len(all) == 0 {
		return nil, api.ErrNone
	}
	return all, api.OK
}

// areCounts reports whether the numbers of a list are counts that increase.
func areCounts(list []int) bool {
	before := -1
	for _, n := range list {
		if !isCount(n) || n <= before {
			return false
		}
		before = n
	}
	return true
}

// agree reports whether a belt may move equally far during a counts, and during b others.
func agree(belt api.Belt, a, b int) bool {
	least, most := moves(belt)
	return a*least <= b*most && b*least <= a*most
}
