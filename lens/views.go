package lens

import (
	"iter"
	"sort"

	"sightbench/api"
	"sightbench/exact"
)

// CheckViews returns ErrMany if there are too many views, and ErrViews unless all are valid.
func CheckViews(l []api.View) api.Errno {
	if len(l) > api.MaxViews {
		return api.ErrMany
	}
	for _, v := range l {
		if !isTarget(v.X, v.Z) || !within(-api.MaxAt, api.MaxAt, v.Lo, v.Hi) || v.Lo > v.Hi {
			return api.ErrViews
		}
	}
	return api.OK
}

// isTarget reports whether a target may be at the place x at the distance z.
func isTarget(x, z int) bool {
	return within(-api.MaxPlace, api.MaxPlace, x) && within(1, api.MaxPlace, z)
}

// FirstBad returns the index of the first view that contradicts those before it, or -1.
func FirstBad(l []api.View) (int, api.Errno) {
	if e := CheckViews(l); e != api.OK {
		return 0, e
	}
	// Views that contradict each other still do with more of them.
	i := sort.Search(len(l), func(i int) bool {
		_, e := focal(l[:i+1])
		return e == api.ErrNone
	})
	if i == len(l) {
		return -1, api.OK
	}
	return i, api.OK
}

// Calibrate returns the camera of some views.
func Calibrate(l []api.View) (api.Camera, api.Errno) {
	if e := CheckViews(l); e != api.OK {
		return api.Camera{}, e
	}
	f, e := focal(l)
	if e != api.OK {
		return api.Camera{}, e
	}
	// The centre is where a target at the tangent 0 is seen.
	return api.Camera{F: f, C: place(l, 0, 1)}, api.OK
}

// Range returns the range of the tangent x / z.
func Range(l []api.View, x, z int) (api.Span, api.Errno) {
	if e := CheckViews(l); e != api.OK {
		return api.Span{}, e
	}
	if !isTarget(x, z) {
		return api.Span{}, api.ErrArg
	}
	if _, e := focal(l); e != api.OK {
		return api.Span{}, e
	}
	return place(l, x, z), api.OK
}

// focal returns the span of the focal lengths that fulfil valid views, each with some centre: ErrNone if the views contradict each other, ErrLoose if there are none or they are loose.
func focal(l []api.View) (api.Span, api.Errno) {
	s, e := solve(rules(l, func(v api.View) (drop, keep, unit int) {
		return v.Z, v.X, v.Z
	}))
	if e == api.OK && s == everything() {
		return api.Span{}, api.ErrLoose
	}
	return s, e
}

// place returns the range of the tangent x / z for valid views that do not contradict each other and are not loose.
func place(l []api.View, x, z int) api.Span {
	// With p for f * x / z + c, a view says of f * (X / Z - x / z) + p what it says of f * X / Z + c.
	s, _ := solve(rules(l, func(v api.View) (drop, keep, unit int) {
		return v.X*z - x*v.Z, v.Z * z, v.Z * z
	}))
	return s
}

// rule says of two numbers u and v that drop * u + keep * v is at most most.
type rule struct{ drop, keep, most int }

// rules yields what views say, each of which says that drop * u + keep * v is from Lo to Hi times unit.
func rules(l []api.View, read func(v api.View) (drop, keep, unit int)) iter.Seq[rule] {
	return func(yield func(rule) bool) {
		for _, v := range l {
			drop, keep, unit := read(v)
			if !yield(rule{drop, keep, v.Hi * unit}) || !yield(rule{-drop, -keep, -v.Lo * unit}) {
				return
			}
		}
	}
}

// dropped yields what rules say of v alone: for each v that fulfils it there is a u, so that both fulfil the rules.
func dropped(list iter.Seq[rule]) iter.Seq[rule] {
	return func(yield func(rule) bool) {
		for a := range list {
			if a.drop == 0 && !yield(a) {
				return
			}
			for b := range list {
				if a.drop > 0 && b.drop < 0 && !yield(a.without(b)) {
					return
				}
			}
		}
	}
}

// without adds up a and b, each so often that u drops out. The sums are below 2^54, as in the rules of views drop is below 2^21, keep below 2^20, and most below 2^32.
func (a rule) without(b rule) rule {
	return rule{keep: a.drop*b.keep - b.drop*a.keep, most: a.drop*b.most - b.drop*a.most}
}

// solve returns the span of the v that fulfil rules, each with some u: ErrNone if there are none.
func solve(list iter.Seq[rule]) (api.Span, api.Errno) {
	s := everything()
	for r := range dropped(list) {
		limit, e := r.limit()
		if e != api.OK {
			return api.Span{}, e
		}
		s, e = exact.Meet(s, limit)
		if e != api.OK {
			return api.Span{}, e
		}
	}
	return s, api.OK
}

// limit returns the span of the v that fulfil a rule without u: ErrNone if there are none.
func (r rule) limit() (api.Span, api.Errno) {
	s := everything()
	// Make does not fail, as the numbers of rules are small.
	switch {
	case r.keep > 0:
		s.Hi, _ = exact.Make(r.most, r.keep)
	case r.keep < 0:
		s.Lo, _ = exact.Make(r.most, r.keep)
	case r.most < 0:
		return api.Span{}, api.ErrNone
	}
	return s, api.OK
}

// everything returns a span that is wider than any that views could give.
func everything() api.Span {
	return api.Span{Lo: api.Frac{Num: -api.MaxPart, Den: 1}, Hi: api.Frac{Num: api.MaxPart, Den: 1}}
}
