package find_test

import (
	"slices"
	"testing"

	"sightbench/api"
	"sightbench/find"
)

// distance returns the distance of a template from an image for a pose.
func distance(t *testing.T, m api.Image, p api.Template, at api.Pose) int {
	t.Helper()
	n, e := find.Distance(m, p, at)
	if e != api.OK {
		t.Fatal(m, p, at, e)
	}
	return n
}

// bound returns the bound of an area.
func bound(t *testing.T, m api.Image, p api.Template, a api.Area) int {
	t.Helper()
	n, e := find.Bound(m, p, a)
	if e != api.OK {
		t.Fatal(m, p, a, e)
	}
	return n
}

// search returns the search of an image for a template.
func search(t *testing.T, m api.Image, p api.Template, limit int) api.Search {
	t.Helper()
	s, e := find.Find(m, p, limit)
	if e != api.OK {
		t.Fatal(m, p, limit, e)
	}
	return s
}

// P7.1: the document's examples.
func TestDistanceExamples(t *testing.T) {
	m, p := row(5, 9, 7, 3), api.Template{W: 2, H: 1, Pix: []int{5, 9}}
	for x, want := range []int{0, 6, 8, 257} {
		if n := distance(t, m, p, api.Pose{X: x, Scale: 2}); n != want {
			t.Error(x, n)
		}
	}
	for _, x := range []struct{ x0, x1, want int }{{0, 3, 0}, {1, 2, 4}, {1, 3, 4}, {2, 3, 8}, {3, 3, 257}} {
		if n := bound(t, m, p, api.Area{X0: x.x0, X1: x.x1, Scale: 2}); n != x.want {
			t.Error(x, n)
		}
	}
	// A pixel that may be anything adds nothing, also where there is no pixel of the image.
	p.Pix[1] = -1
	if n := distance(t, m, p, api.Pose{X: 3, Scale: 2}); n != 2 {
		t.Error(n)
	}
}

// P7.1: all poses of small images.
func TestDistance(t *testing.T) {
	d := newDice(10)
	for range 60 {
		m, p := d.image(d.from(1, 6), d.from(1, 6)), d.template(d.from(1, 8), d.from(1, 8))
		for _, at := range allPoses(m) {
			if n, want := distance(t, m, p, at), distanceOf(m, p, at); n != want {
				t.Fatal(m, p, at, n, want)
			}
		}
	}
	white, black := filled(16, 16, 255), pattern(8, 8, 0)
	for _, at := range []api.Pose{{X: 15, Y: 15, Turn: 11, Scale: 4}, {X: 0, Y: 0, Turn: 0, Scale: 1}, {X: 8, Y: 8, Turn: 4, Scale: 2}} {
		if n := distance(t, white, black, at); n != most {
			t.Error(at, n)
		}
	}
}

// P7.1, P7.5: bounds; that of an area with one pose is the pose's distance.
func TestBound(t *testing.T) {
	d := newDice(11)
	for range 2000 {
		m, p := d.image(d.from(1, 16), d.from(1, 16)), d.template(d.from(1, 8), d.from(1, 8))
		a := d.area(m)
		if n, want := bound(t, m, p, a), boundOf(m, p, a); n != want {
			t.Fatal(m, p, a, n, want)
		}
		at := d.pose(m)
		if n, want := bound(t, m, p, single(at)), distance(t, m, p, at); n != want {
			t.Fatal(m, p, at, n, want)
		}
	}
}

// P7.5: an area within another one has no lesser bound, and no pose a lesser distance.
func TestBoundsWithin(t *testing.T) {
	d := newDice(12)
	for range 1000 {
		m, p := d.image(d.from(1, 16), d.from(1, 16)), d.template(d.from(1, 8), d.from(1, 8))
		a := d.area(m)
		b := a
		b.X0, b.Y0 = d.from(a.X0, a.X1), d.from(a.Y0, a.Y1)
		b.X1, b.Y1 = d.from(b.X0, a.X1), d.from(b.Y0, a.Y1)
		at := api.Pose{X: d.from(b.X0, b.X1), Y: d.from(b.Y0, b.Y1), Turn: b.Turn, Scale: b.Scale}
		if n, o, least := bound(t, m, p, a), bound(t, m, p, b), distance(t, m, p, at); n > o || o > least {
			t.Fatal(m, p, a, b, at, n, o, least)
		}
	}
}

// badAreas returns areas that are not allowed for an image of w * h pixels.
func badAreas(w, h int) []api.Area {
	good := api.Area{X1: w - 1, Y1: h - 1, Turn: 11, Scale: 4}
	list := []api.Area{{}, {X0: 1, Scale: 1}, {Y0: 1, Scale: 1}, {X0: 2, X1: 1, Y1: 1, Scale: 1}, {X1: 1, Y0: 2, Y1: 1, Scale: 1}, {X0: least, X1: over, Y0: least, Y1: over, Scale: 1}}
	add := func(change func(a *api.Area)) {
		a := good
		change(&a)
		list = append(list, a)
	}
	for _, n := range beyond(0, w-1) {
		add(func(a *api.Area) { a.X0 = n })
		add(func(a *api.Area) { a.X1 = n })
		add(func(a *api.Area) { a.X0, a.X1 = n, n })
	}
	for _, n := range beyond(0, h-1) {
		add(func(a *api.Area) { a.Y0 = n })
		add(func(a *api.Area) { a.Y1 = n })
		add(func(a *api.Area) { a.Y0, a.Y1 = n, n })
	}
	for _, n := range beyond(0, 11) {
		add(func(a *api.Area) { a.Turn = n })
	}
	for _, n := range beyond(1, 4) {
		add(func(a *api.Area) { a.Scale = n })
	}
	return list
}

// badPoses returns poses that are not allowed for an image of w * h pixels.
func badPoses(w, h int) []api.Pose {
	list := []api.Pose{{}}
	for _, n := range beyond(0, w-1) {
		list = append(list, api.Pose{X: n, Scale: 1})
	}
	for _, n := range beyond(0, h-1) {
		list = append(list, api.Pose{Y: n, Scale: 1})
	}
	for _, n := range beyond(0, 11) {
		list = append(list, api.Pose{Turn: n, Scale: 1})
	}
	for _, n := range beyond(1, 4) {
		list = append(list, api.Pose{Scale: n})
	}
	return list
}

// P7.1, P7.2, P1 (R1): each error, and with several of them the first one.
func TestSearchErrors(t *testing.T) {
	check := func(m api.Image, p api.Template, at api.Pose, a api.Area, limit int, want api.Errno) {
		t.Helper()
		n, e := find.Distance(m, p, at)
		fails(t, "Distance", n == 0, e, want)
		n, e = find.Bound(m, p, a)
		fails(t, "Bound", n == 0, e, want)
		s, e := find.Find(m, p, limit)
		fails(t, "Find", len(s.Matches) == 0 && len(s.Areas) == 0, e, want)
		for _, s := range []api.Search{{}, {Matches: []api.Match{{}}}} {
			fails(t, "Check", true, find.Check(m, p, limit, s), want)
		}
	}
	m, p, badPose, badArea := filled(5, 3, 7), pattern(3, 2, 7), badPoses(5, 3), badAreas(5, 3)
	goodPose, goodArea := api.Pose{Scale: 2}, api.Area{Scale: 2}
	for _, bad := range badImages() {
		check(bad, p, goodPose, goodArea, 0, api.ErrImage)
		check(bad, pattern(3, 2, -1), api.Pose{X: -1}, api.Area{X0: -1}, -1, api.ErrImage)
	}
	for _, bad := range badTemplates() {
		check(m, bad, goodPose, goodArea, 0, api.ErrTemplate)
		check(m, bad, api.Pose{X: -1}, api.Area{X0: -1}, -1, api.ErrTemplate)
	}
	limits := beyond(0, most)
	for i := range max(len(badPose), len(badArea)) {
		check(m, p, badPose[i%len(badPose)], badArea[i%len(badArea)], limits[i%len(limits)], api.ErrArg)
	}
}

// P7.2: the document's example, and what is left of it with other limits.
func TestFindExamples(t *testing.T) {
	m, p := row(5, 9, 7, 3), api.Template{W: 2, H: 1, Pix: []int{5, 9}}
	here := api.Match{Pose: api.Pose{Scale: 2}}
	s := search(t, m, p, 0)
	if !slices.Equal(s.Matches, []api.Match{here}) || find.Check(m, p, 0, s) != api.OK {
		t.Error(s)
	}
	// In half its size both pixels are at one place, so that it is nowhere; in its own size the first place is not among the areas.
	if !slices.Equal(s.Areas[:5], []api.Area{{Scale: 1}, {X0: 1, X1: 1, Scale: 1}, {X0: 2, X1: 3, Scale: 1}, {X0: 1, X1: 1, Scale: 2}, {X0: 2, X1: 3, Scale: 2}}) {
		t.Error(s.Areas)
	}
	if s := search(t, m, p, most); len(s.Matches) != 4*48 || len(s.Areas) != 0 || s.Matches[4*48-1].Pose != (api.Pose{X: 3, Turn: 11, Scale: 4}) {
		t.Error(s)
	}
	// In a square, columns are divided first.
	s = search(t, api.Image{W: 2, H: 2, Pix: []int{0, 0, 0, 9}}, pattern(1, 1, 9), 0)
	if !slices.Equal(s.Areas[:2], []api.Area{{Y1: 1, Scale: 1}, {X0: 1, X1: 1, Scale: 1}}) || len(s.Matches) != 48 {
		t.Error(s)
	}
}

// isFound fails the test unless an image is searched as the document says, and the search is proved.
func isFound(t *testing.T, m api.Image, p api.Template, limit int) api.Search {
	t.Helper()
	s := search(t, m, p, limit)
	if want := matchesOf(m, p, limit); !slices.Equal(s.Matches, want) {
		t.Fatal(m, p, limit, s.Matches, want)
	}
	if want := areasOf(m, p, limit); !slices.Equal(s.Areas, want) {
		t.Fatal(m, p, limit, s.Areas, want)
	}
	if e := find.Check(m, p, limit, s); e != api.OK {
		t.Fatal(m, p, limit, e)
	}
	return s
}

// P7.2, P7.4: what is found are all matches, and it is proved.
func TestFind(t *testing.T) {
	d := newDice(13)
	for w := 1; w <= 7; w++ {
		for h := 1; h <= 7; h++ {
			for range 4 {
				m, p := d.image(w, h), d.template(d.from(1, 4), d.from(1, 4))
				isFound(t, m, p, d.limit())
			}
		}
	}
	for range 12 {
		m, p := d.image(d.from(8, 16), d.from(8, 16)), d.template(d.from(1, 8), d.from(1, 8))
		isFound(t, m, p, d.limit())
	}
	isFound(t, filled(16, 16, 9), pattern(8, 8, 9), 0)
	isFound(t, filled(16, 16, 0), pattern(8, 8, 255), most)
	isFound(t, filled(16, 16, 0), pattern(8, 8, 255), most-1)
}

// P7.4: limits at, and one below, the distances that there are.
func TestLimitsOfFind(t *testing.T) {
	d := newDice(14)
	for range 40 {
		m, p := d.image(d.from(1, 5), d.from(1, 5)), d.template(d.from(1, 3), d.from(1, 3))
		n := distance(t, m, p, d.pose(m))
		isFound(t, m, p, n)
		if n > 0 {
			isFound(t, m, p, n-1)
		}
	}
}

// P7.5: with a greater limit no match is lost.
func TestGreaterLimits(t *testing.T) {
	d := newDice(15)
	for range 100 {
		m, p, limit := d.image(d.from(1, 8), d.from(1, 8)), d.template(d.from(1, 4), d.from(1, 4)), d.limit()
		few := search(t, m, p, limit).Matches
		many := search(t, m, p, d.from(limit, most)).Matches
		for _, x := range few {
			if !slices.Contains(many, x) {
				t.Fatal(m, p, limit, x)
			}
		}
	}
}

// P7.5: a template is found where it was cut out.
func TestCutOut(t *testing.T) {
	d := newDice(16)
	for range 500 {
		m := d.image(d.from(1, 16), d.from(1, 16))
		p := api.Template{W: d.from(1, min(8, m.W)), H: d.from(1, min(8, m.H))}
		x0, y0 := d.from(0, m.W-p.W), d.from(0, m.H-p.H)
		for i := range p.W * p.H {
			p.Pix = append(p.Pix, m.Pix[(y0+i/p.W)*m.W+x0+i%p.W])
		}
		for i := range p.Pix {
			if d.Intn(6) == 0 && i > 0 {
				p.Pix[i] = -1
			}
		}
		at := api.Pose{X: x0 + (p.W-1)/2, Y: y0 + (p.H-1)/2, Scale: 2}
		if n := distance(t, m, p, at); n != 0 {
			t.Fatal(m, p, at, n)
		}
		if s := search(t, m, p, 0); !slices.Contains(s.Matches, api.Match{Pose: at}) {
			t.Fatal(m, p, at, s.Matches)
		}
	}
}
