package find_test

import (
	"slices"
	"testing"

	"sightbench/api"
	"sightbench/find"
)

// roomy returns a copy of a list with more memory behind its end, and all of that memory.
func roomy[T any](list []T, filling T) (short, long []T) {
	long = append(slices.Clone(list), slices.Repeat([]T{filling}, 300)...)
	return long[:len(list)], long
}

// spoil writes into all memory of a list, also behind its end.
func spoil[T any](list []T, filling T) {
	list = list[:cap(list)]
	for i := range list {
		list[i] = filling
	}
}

// P1 (R3): images, templates and searches are only read, results share no memory with them, and nothing is kept from one call to the next.
func TestMemoryOfSearches(t *testing.T) {
	d := newDice(40)
	for range 100 {
		m, p, limit := d.image(d.from(1, 6), d.from(1, 6)), d.template(d.from(1, 4), d.from(1, 4)), d.limit()
		at, a := d.pose(m), d.area(m)
		pix, allPix := roomy(m.Pix, 77)
		own, allOwn := roomy(p.Pix, 77)
		m.Pix, p.Pix = pix, own
		before, beforeOwn := slices.Clone(allPix), slices.Clone(allOwn)
		want := search(t, m, p, limit)
		matches, allMatches := roomy(want.Matches, api.Match{Distance: -7})
		areas, allAreas := roomy(want.Areas, api.Area{X0: -7})
		beforeMatches, beforeAreas := slices.Clone(allMatches), slices.Clone(allAreas)
		for range 2 {
			s := search(t, m, p, limit)
			if !slices.Equal(s.Matches, matches) || !slices.Equal(s.Areas, areas) {
				t.Fatal("kept or shared", m, p, limit)
			}
			spoil(s.Matches, api.Match{Distance: -1})
			spoil(s.Areas, api.Area{X0: -1})
			if e := find.Check(m, p, limit, api.Search{Matches: matches, Areas: areas}); e != api.OK {
				t.Fatal("kept", m, p, limit, e)
			}
			if distance(t, m, p, at) != distanceOf(m, p, at) || bound(t, m, p, a) != boundOf(m, p, a) {
				t.Fatal("kept", m, p)
			}
			find.Offset(p, 3, 2, 0, 0)
		}
		if !slices.Equal(allPix, before) || !slices.Equal(allOwn, beforeOwn) || !slices.Equal(allMatches, beforeMatches) || !slices.Equal(allAreas, beforeAreas) {
			t.Fatal("changed", m, p, limit)
		}
	}
}

// P1 (R3)
func TestMemoryOfPlans(t *testing.T) {
	d := newDice(41)
	for i := range 100 {
		m, tool := d.heights(d.from(8, 16), d.from(8, 16)), d.tool()
		pix, all := roomy(m.Pix, 77)
		m.Pix = pix
		before := slices.Clone(all)
		want := slices.Clone(plan(t, m, tool, i%3))
		for range 2 {
			list := plan(t, m, tool, i%3)
			if !slices.Equal(list, want) {
				t.Fatal("kept or shared", m, tool)
			}
			spoil(list, api.Grasp{X: -1})
			for _, g := range want {
				if !holds(t, m, tool, g, i%3) {
					t.Fatal("kept", m, tool, g)
				}
			}
		}
		if !slices.Equal(all, before) {
			t.Fatal("changed", m, tool)
		}
	}
}

// P1 (R4): nil and empty lists are the same.
func TestEmptyLists(t *testing.T) {
	m, p := filled(2, 2, 0), pattern(1, 1, 255)
	s := search(t, m, p, most)
	s.Areas = []api.Area{}
	if e := find.Check(m, p, most, s); e != api.OK {
		t.Error(e)
	}
	s = search(t, m, p, 0)
	for _, none := range [][]api.Match{nil, {}} {
		s.Matches = none
		if e := find.Check(m, p, 0, s); e != api.OK {
			t.Error(e)
		}
	}
}

// P1 (R7): no call panics, whatever the arguments are.
func TestExtremes(t *testing.T) {
	d := newDice(42)
	numbers := []int{least, least + 1, -1 << 32, -256, -2, -1, 0, 0, 0, 1, 1, 1, 2, 2, 3, 4, 7, 8, 11, 12, 15, 16, 255, 256, most, most + 1, 1 << 32, over - 1, over}
	n := func() int { return numbers[d.Intn(len(numbers))] }
	images := append(badImages(), filled(3, 3, 0), filled(16, 16, 9), filled(1, 16, 200), filled(16, 1, 0))
	templates := append(badTemplates(), pattern(1, 1, 0), pattern(8, 8, 9), pattern(3, 2, 200))
	tools := append(badTools(), api.Tool{Length: 4, Grip: 1, Palm: 255}, api.Tool{Length: 1, Grip: 1, Palm: 9})
	for i := range 20000 {
		m, p, tool := images[d.Intn(len(images))], templates[d.Intn(len(templates))], tools[d.Intn(len(tools))]
		if i%2 == 0 {
			m, p, tool = filled(5, 4, 9), pattern(2, 3, 8), api.Tool{Length: 2, Grip: 1, Palm: 255}
		}
		at := api.Pose{X: n(), Y: n(), Turn: n(), Scale: n()}
		a := api.Area{X0: n(), Y0: n(), X1: n(), Y1: n(), Turn: n(), Scale: n()}
		find.Offset(p, n(), n(), n(), n())
		find.Distance(m, p, at)
		find.Bound(m, p, a)
		find.Check(m, p, n(), api.Search{Matches: []api.Match{{Pose: at, Distance: n()}}, Areas: []api.Area{a, a}})
		find.Check(m, p, n(), api.Search{Areas: []api.Area{a}})
		find.Holds(m, tool, api.Grasp{X: n(), Y: n(), Across: d.Intn(2) == 0, Width: n(), Z: n()}, n())
		if i%20 < 2 {
			find.Find(m, p, n())
			find.Plan(m, tool, n())
		}
	}
}
