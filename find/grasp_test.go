package find_test

import (
	"slices"
	"testing"

	"sightbench/api"
	"sightbench/find"
)

// holds returns whether a grasp holds with a slack.
func holds(t *testing.T, m api.Image, tool api.Tool, g api.Grasp, slack int) bool {
	t.Helper()
	ok, e := find.Holds(m, tool, g, slack)
	if e != api.OK {
		t.Fatal(m, tool, g, slack, e)
	}
	return ok
}

// plan returns the plan for a height map.
func plan(t *testing.T, m api.Image, tool api.Tool, slack int) []api.Grasp {
	t.Helper()
	list, e := find.Plan(m, tool, slack)
	if e != api.OK {
		t.Fatal(m, tool, slack, e)
	}
	return list
}

// across returns a grasp with X and Y exchanged, and Across the other way.
func across(g api.Grasp) api.Grasp {
	return api.Grasp{X: g.Y, Y: g.X, Across: !g.Across, Width: g.Width, Z: g.Z}
}

// P7.3: the document's examples, and what else holds in the same row.
func TestGraspExamples(t *testing.T) {
	m, tool := row(2, 9, 9, 1), api.Tool{Length: 1, Grip: 3, Palm: 8}
	for z := -1; z <= 256; z++ {
		g := api.Grasp{X: 1, Width: 2, Z: z}
		if ok := holds(t, m, tool, g, 0); ok != (z >= 2 && z <= 6) {
			t.Error(z, ok)
		}
		if ok := holds(t, flipped(m), tool, across(g), 0); ok != (z >= 2 && z <= 6) {
			t.Error(z, ok)
		}
		if holds(t, m, tool, across(g), 0) || holds(t, flipped(m), tool, g, 0) || holds(t, m, tool, g, 1) {
			t.Error(z)
		}
	}
	if l := plan(t, m, tool, 0); !slices.Equal(l, []api.Grasp{{X: 1, Width: 2, Z: 2}}) {
		t.Error(l)
	}
	if l := plan(t, m, tool, 1); len(l) != 0 {
		t.Error(l)
	}
	// The palm keeps the tips up.
	if l := plan(t, row(2, 9, 9, 1), api.Tool{Length: 1, Grip: 3, Palm: 4}, 0); !slices.Equal(l, []api.Grasp{{X: 1, Width: 2, Z: 5}}) {
		t.Error(l)
	}
	if l := plan(t, row(6, 9, 9, 7), tool, 0); len(l) != 0 {
		t.Error(l)
	}
	if l := plan(t, row(6, 9, 9, 6), tool, 0); !slices.Equal(l, []api.Grasp{{X: 1, Width: 2, Z: 6}}) {
		t.Error(l)
	}
	if l := plan(t, row(0, 255, 0), api.Tool{Length: 1, Grip: 255, Palm: 255}, 0); !slices.Equal(l, []api.Grasp{{X: 1, Width: 1, Z: 0}}) {
		t.Error(l)
	}
}

// P7.3: the order of a plan; grasps across are in the order of Y, then X, too.
func TestOrderOfPlans(t *testing.T) {
	m := api.Image{W: 4, H: 3, Pix: []int{
		0, 0, 0, 0,
		0, 9, 8, 0,
		0, 0, 0, 0,
	}}
	tool := api.Tool{Length: 1, Grip: 5, Palm: 8}
	want := []api.Grasp{
		{X: 1, Y: 1, Width: 2, Z: 1},
		{X: 1, Y: 1, Across: true, Width: 1, Z: 1}, {X: 2, Y: 1, Across: true, Width: 1},
	}
	if l := plan(t, m, tool, 0); !slices.Equal(l, want) {
		t.Error(l)
	}
	m = api.Image{W: 2, H: 4, Pix: []int{
		0, 0,
		0, 9,
		9, 0,
		0, 0,
	}}
	want = []api.Grasp{
		{X: 1, Y: 1, Across: true, Width: 1, Z: 1}, {X: 0, Y: 2, Across: true, Width: 1, Z: 1},
		{X: 0, Y: 1, Across: true, Width: 2, Z: 1}, {X: 1, Y: 1, Across: true, Width: 2, Z: 1},
	}
	if l := plan(t, m, tool, 0); !slices.Equal(l, want) {
		t.Error(l)
	}
}

// P7.3: grasps of all kinds, near the border and beyond it.
func TestHolds(t *testing.T) {
	d := newDice(30)
	counts := [3]int{}
	for range 1500 {
		m, tool, slack := d.heights(d.from(1, 16), d.from(1, 16)), d.tool(), d.Intn(3)
		list := plan(t, m, tool, slack)
		for range 60 {
			g := api.Grasp{X: d.from(-3, m.W+2), Y: d.from(-3, m.H+2), Across: d.Intn(2) == 0, Width: d.from(-1, 10), Z: d.from(-1, 10)}
			if len(list) > 0 && d.Intn(2) == 0 {
				g = list[d.Intn(len(list))]
				g.X, g.Y, g.Width, g.Z = g.X+d.from(-1, 1), g.Y+d.from(-1, 1), g.Width+d.from(-1, 1), g.Z+d.from(-1, 2)
			}
			ok := holds(t, m, tool, g, slack)
			if ok != holdsWith(m, tool, g, slack) {
				t.Fatal(m, tool, g, slack, ok)
			}
			if ok {
				counts[slack]++
			}
		}
	}
	if min(counts[0], counts[1], counts[2]) < 20 {
		t.Error(counts)
	}
}

// P7.3: bars of each height and breadth in the middle of a map, and grasps of them at the depths where they begin and end to hold.
func TestHoldsOnABar(t *testing.T) {
	d := newDice(31)
	counts := [3]int{}
	for i := range 60 {
		top, wide := d.from(3, 255), d.from(1, 4)
		m := filled(16, 10, 0)
		for n := range wide * 10 {
			m.Pix[n/wide*16+6+n%wide] = top
		}
		tool := api.Tool{Length: d.from(1, 4), Grip: d.from(1, 3), Palm: d.from(max(3, top-3), 255)}
		if i%2 == 0 {
			m = flipped(m)
		}
		for n := range 16 * 10 * 8 * 5 {
			z := []int{0, 1, top - tool.Grip, top - tool.Palm, 255}[n%5] + d.from(-1, 1)
			g := api.Grasp{X: n / 5 % 16, Y: n / 80 % 10, Width: n/800 + 1, Z: z}
			if i%2 == 0 {
				g = across(g)
			}
			slack := d.Intn(3)
			ok := holds(t, m, tool, g, slack)
			if ok != holdsWith(m, tool, g, slack) {
				t.Fatal(m, tool, g, slack, ok)
			}
			if ok {
				counts[slack]++
			}
		}
	}
	if min(counts[0], counts[1], counts[2]) < 100 {
		t.Error(counts)
	}
}

// P7.3, P7.6: plans; each grasp holds wherever the tool is within the slack, and none is missing.
func TestPlan(t *testing.T) {
	d := newDice(32)
	counts := [3]int{}
	for i := range 180 {
		slack := i % 3
		m, tool := d.heights(d.from(1+4*slack, 8+4*slack), d.from(1+4*slack, 8+4*slack)), d.tool()
		list := plan(t, m, tool, slack)
		if want := planOf(m, tool, slack); !slices.Equal(list, want) {
			t.Fatal(m, tool, slack, list, want)
		}
		counts[slack] += len(list)
	}
	if min(counts[0], counts[1], counts[2]) < 20 {
		t.Error(counts)
	}
}

// P7.6: each grasp of a plan holds, moved by up to the slack, without any; it is the least depth; and what is not in the plan holds at no depth.
func TestPlanHolds(t *testing.T) {
	d := newDice(33)
	counts := [3]int{}
	for i := range 60 {
		m, tool := d.heights(d.from(8, 16), d.from(8, 16)), d.tool()
		slack := i % 3
		list := plan(t, m, tool, slack)
		counts[slack] += len(list)
		for _, g := range list {
			for dx := -slack; dx <= slack; dx++ {
				for dy := -slack; dy <= slack; dy++ {
					moved := g
					moved.X, moved.Y = g.X+dx, g.Y+dy
					if !holds(t, m, tool, moved, 0) {
						t.Fatal(m, tool, g, slack, moved)
					}
				}
			}
			lower := g
			lower.Z--
			if holds(t, m, tool, lower, slack) {
				t.Fatal(m, tool, g, slack)
			}
		}
		for range 200 {
			g := api.Grasp{X: d.Intn(m.W), Y: d.Intn(m.H), Across: d.Intn(2) == 0, Width: d.from(1, 8), Z: d.Intn(50)}
			isThere := slices.ContainsFunc(list, func(o api.Grasp) bool { o.Z = g.Z; return o == g })
			if holds(t, m, tool, g, slack) && !isThere {
				t.Fatal("missing", m, tool, g, slack)
			}
		}
	}
	if min(counts[0], counts[1], counts[2]) < 20 {
		t.Error(counts)
	}
}

// places returns where the grasps of a plan are, whatever their depth is.
func places(list []api.Grasp) map[api.Grasp]bool {
	set := map[api.Grasp]bool{}
	for _, g := range list {
		g.Z = 0
		set[g] = true
	}
	return set
}

// P7.6: a smaller slack loses no place, and no grasp holds less.
func TestSmallerSlack(t *testing.T) {
	d := newDice(34)
	lost := 0
	for range 60 {
		m, tool := d.heights(d.from(8, 16), d.from(8, 16)), d.tool()
		for slack := 1; slack <= 2; slack++ {
			few, many := plan(t, m, tool, slack), plan(t, m, tool, slack-1)
			set := places(many)
			for g := range places(few) {
				if !set[g] {
					t.Fatal(m, tool, slack, g)
				}
			}
			for _, g := range few {
				if !holds(t, m, tool, g, slack-1) {
					t.Fatal(m, tool, slack, g)
				}
			}
			lost += len(many) - len(few)
		}
	}
	if lost == 0 {
		t.Error("a slack makes no difference")
	}
}

// P7.6: the plan for the image with columns and rows exchanged.
func TestPlanExchanged(t *testing.T) {
	d := newDice(35)
	for i := range 60 {
		m, tool := d.heights(d.from(8, 16), d.from(8, 16)), d.tool()
		list, other := plan(t, m, tool, i%3), plan(t, flipped(m), tool, i%3)
		if len(list) != len(other) {
			t.Fatal(m, tool, len(list), len(other))
		}
		for _, g := range list {
			if !slices.Contains(other, across(g)) {
				t.Fatal(m, tool, g)
			}
		}
	}
}

// P7.3: grasps that are not allowed do not hold, however far away they are.
func TestGraspsBeyond(t *testing.T) {
	m, tool := filled(5, 5, 0), api.Tool{Length: 1, Grip: 3, Palm: 8}
	m.Pix[12] = 5
	good := api.Grasp{X: 2, Y: 2, Width: 1, Z: 1}
	for _, isAcross := range []bool{false, true} {
		good.Across = isAcross
		if !holds(t, m, tool, good, 0) {
			t.Fatal(good)
		}
		for slack := range 3 {
			for _, n := range beyond(0, 4) {
				for _, g := range []api.Grasp{{X: n, Y: 2, Width: 1}, {X: 2, Y: n, Width: 1}, {X: n, Y: n, Width: 1}, {X: n, Y: n, Width: n, Z: n}} {
					g.Across = isAcross
					if holds(t, m, tool, g, slack) {
						t.Error(g)
					}
				}
			}
			for _, n := range beyond(1, 8) {
				g := good
				g.Width = n
				if holds(t, m, tool, g, slack) {
					t.Error(g)
				}
			}
			for _, n := range beyond(0, 255) {
				g := good
				g.Z = n
				if holds(t, m, tool, g, slack) {
					t.Error(g)
				}
			}
		}
	}
	wide := filled(16, 1, 9)
	wide.Pix[0], wide.Pix[9], wide.Pix[10] = 0, 0, 0
	if !holds(t, wide, tool, api.Grasp{X: 1, Width: 8, Z: 1}, 0) || holds(t, wide, tool, api.Grasp{X: 1, Width: 9, Z: 1}, 0) {
		t.Error("width 8 is the greatest")
	}
}

// P7.3, P1 (R1): each error, and with several of them the first one.
func TestGraspErrors(t *testing.T) {
	check := func(m api.Image, tool api.Tool, g api.Grasp, slack int, want api.Errno) {
		t.Helper()
		ok, e := find.Holds(m, tool, g, slack)
		fails(t, "Holds", !ok, e, want)
		list, e := find.Plan(m, tool, slack)
		fails(t, "Plan", len(list) == 0, e, want)
	}
	m, tool, g := row(2, 9, 9, 1), api.Tool{Length: 1, Grip: 3, Palm: 8}, api.Grasp{X: 1, Width: 2, Z: 2}
	for _, bad := range badImages() {
		check(bad, tool, g, 0, api.ErrImage)
		check(bad, api.Tool{}, api.Grasp{}, -1, api.ErrImage)
	}
	for _, bad := range badTools() {
		check(m, bad, g, 0, api.ErrTool)
		check(m, bad, api.Grasp{}, 3, api.ErrTool)
	}
	for _, n := range beyond(0, 2) {
		check(m, tool, g, n, api.ErrArg)
		check(m, tool, api.Grasp{X: over, Y: least}, n, api.ErrArg)
	}
	for _, good := range []api.Tool{{Length: 4, Grip: 1, Palm: 1}, {Length: 1, Grip: 1, Palm: 255}, {Length: 1, Grip: 255, Palm: 255}} {
		plan(t, m, good, 2)
	}
}
