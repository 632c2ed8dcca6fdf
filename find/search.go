package find

import (
	"cmp"
	"iter"
	"slices"

	"sightbench/api"
)

// Distance returns the distance of a template from an image for a pose.
func Distance(m api.Image, t api.Template, p api.Pose) (int, api.Errno) {
	return Bound(m, t, only(p))
}

// Bound returns the bound of an area.
func Bound(m api.Image, t api.Template, a api.Area) (int, api.Errno) {
	if e := checkBoth(m, t); e != api.OK {
		return 0, e
	}
	if !isAllowed(picture{m}, a) {
		return 0, api.ErrArg
	}
	return bound(picture{m}, t, a), api.OK
}

// Find returns the search of an image for a template and a limit.
func Find(m api.Image, t api.Template, limit int) (api.Search, api.Errno) {
	if e := checkLimited(m, t, limit); e != api.OK {
		return api.Search{}, e
	}
	var s api.Search
	var search func(a api.Area)
	search = func(a api.Area) {
		b := bound(picture{m}, t, a)
		switch {
		case b > limit:
			s.Areas = append(s.Areas, a)
		case a.X0 == a.X1 && a.Y0 == a.Y1:
			p := api.Pose{X: a.X0, Y: a.Y0, Turn: a.Turn, Scale: a.Scale}
			s.Matches = append(s.Matches, api.Match{Pose: p, Distance: b})
		default:
			first, second := halves(a)
			search(first)
			search(second)
		}
	}
	for a := range wholes(m) {
		search(a)
	}
	slices.SortFunc(s.Matches, func(a, b api.Match) int { return compare(a.Pose, b.Pose) })
	return s, api.OK
}

// Check returns ErrProof unless a search is proved.
func Check(m api.Image, t api.Template, limit int, s api.Search) api.Errno {
	if e := checkLimited(m, t, limit); e != api.OK {
		return e
	}
	if !isProved(picture{m}, t, limit, s) {
		return api.ErrProof
	}
	return api.OK
}

// checkBoth returns the error of an image and a template that are not valid.
func checkBoth(m api.Image, t api.Template) api.Errno {
	if !isCamera(m) {
		return api.ErrImage
	}
	if !isTemplate(t) {
		return api.ErrTemplate
	}
	return api.OK
}

// checkLimited returns the error of what a search is asked for.
func checkLimited(m api.Image, t api.Template, limit int) api.Errno {
	if e := checkBoth(m, t); e != api.OK {
		return e
	}
	if !within(limit, 0, api.MaxTemplate*api.MaxTemplate*api.MaxValue) {
		return api.ErrArg
	}
	return api.OK
}

// only returns the area that has one pose.
func only(p api.Pose) api.Area {
	return api.Area{X0: p.X, Y0: p.Y, X1: p.X, Y1: p.Y, Turn: p.Turn, Scale: p.Scale}
}

// wholes yields for each turn, and in it for each scale, the area of all places of an image.
func wholes(m api.Image) iter.Seq[api.Area] {
	return func(yield func(api.Area) bool) {
		for turn := range api.MaxTurns {
			for scale := 1; scale <= api.MaxScales; scale++ {
				if !yield(api.Area{X1: m.W - 1, Y1: m.H - 1, Turn: turn, Scale: scale}) {
					return
				}
			}
		}
	}
}

// poses yields the poses of an area.
func poses(a api.Area) iter.Seq[api.Pose] {
	return func(yield func(api.Pose) bool) {
		for y := a.Y0; y <= a.Y1; y++ {
			for x := a.X0; x <= a.X1; x++ {
				if !yield(api.Pose{X: x, Y: y, Turn: a.Turn, Scale: a.Scale}) {
					return
				}
			}
		}
	}
}

// halves returns the two areas into which one of several poses is divided.
func halves(a api.Area) (first, second api.Area) {
	first, second = a, a
	if a.X1-a.X0 >= a.Y1-a.Y0 {
		first.X1 = (a.X0 + a.X1) / 2
		second.X0 = first.X1 + 1
	} else {
		first.Y1 = (a.Y0 + a.Y1) / 2
		second.Y0 = first.Y1 + 1
	}
	return first, second
}

// compare compares two poses in the order of matches.
func compare(p, q api.Pose) int {
	return cmp.Or(cmp.Compare(p.Turn, q.Turn), cmp.Compare(p.Scale, q.Scale), cmp.Compare(p.Y, q.Y), cmp.Compare(p.X, q.X))
}

// isAllowed reports whether an area is allowed for an image.
func isAllowed(m picture, a api.Area) bool {
	return m.has(place{a.X0, a.Y0}) && m.has(place{a.X1, a.Y1}) && a.X0 <= a.X1 && a.Y0 <= a.Y1 && isTurn(a.Turn) && isScale(a.Scale)
}

// bound returns the bound of an area; if it has one pose, that is the pose's distance.
func bound(m picture, t api.Template, a api.Area) int {
	sum := 0
	for o, v := range offsets(t, a.Turn, a.Scale) {
		least := api.MaxValue
		for p := range poses(a) {
			least = min(least, difference(m, o.plus(place{p.X, p.Y}), v))
		}
		sum += least
	}
	return sum
}

// difference returns by how much an image differs at a place from the value v.
func difference(m picture, p place, v int) int {
	if !m.has(p) {
		return api.MaxValue
	}
	return max(v-m.at(p), m.at(p)-v)
}

// isProved reports whether a search is proved.
func isProved(m picture, t api.Template, limit int, s api.Search) bool {
	met := map[api.Pose]bool{}
	// A pose that is met again ends the proof, so that it does not go on for longer than there are poses, however long its lists are.
	isNew := func(a api.Area) bool {
		if !isAllowed(m, a) {
			return false
		}
		for p := range poses(a) {
			if met[p] {
				return false
			}
			met[p] = true
		}
		return true
	}
	for _, x := range s.Matches {
		if !isNew(only(x.Pose)) || x.Distance > limit || x.Distance != bound(m, t, only(x.Pose)) {
			return false
		}
	}
	for _, a := range s.Areas {
		if !isNew(a) || bound(m, t, a) <= limit {
			return false
		}
	}
	return len(met) == m.W*m.H*api.MaxTurns*api.MaxScales
}
