package find_test

import (
	"slices"
	"testing"

	"sightbench/api"
	"sightbench/find"
)

// copied returns a search that shares no memory with s.
func copied(s api.Search) api.Search {
	return api.Search{Matches: slices.Clone(s.Matches), Areas: slices.Clone(s.Areas)}
}

// finer returns a proved search in another order, some of whose areas are divided.
func (d dice) finer(s api.Search) api.Search {
	f := api.Search{Matches: slices.Clone(s.Matches)}
	for _, a := range s.Areas {
		pile := []api.Area{a}
		for len(pile) > 0 {
			a, pile = pile[0], pile[1:]
			b, c, ok := parts(a)
			if ok && d.Intn(2) == 0 {
				pile = append(pile, b, c)
			} else {
				f.Areas = append(f.Areas, a)
			}
		}
	}
	d.Shuffle(len(f.Matches), func(i, j int) { f.Matches[i], f.Matches[j] = f.Matches[j], f.Matches[i] })
	d.Shuffle(len(f.Areas), func(i, j int) { f.Areas[i], f.Areas[j] = f.Areas[j], f.Areas[i] })
	return f
}

// changed returns a search with a small change.
func (d dice) changed(s api.Search, m api.Image) api.Search {
	c := copied(s)
	by := []int{-1, 1}[d.Intn(2)]
	if n := len(c.Matches); n > 0 && d.Intn(2) == 0 {
		i := d.Intn(n)
		switch d.Intn(5) {
		case 0:
			c.Matches = slices.Delete(c.Matches, i, i+1)
		case 1:
			c.Matches = append(c.Matches, c.Matches[i])
		case 2:
			c.Matches[i].Distance += by
		case 3:
			c.Matches[i].Pose = d.pose(m)
		case 4:
			c.Areas = append(c.Areas, single(c.Matches[i].Pose))
		}
		return c
	}
	if len(c.Areas) == 0 {
		c.Areas = append(c.Areas, d.area(m))
		return c
	}
	i := d.Intn(len(c.Areas))
	a := &c.Areas[i]
	switch d.Intn(8) {
	case 0:
		c.Areas = slices.Delete(c.Areas, i, i+1)
	case 1:
		c.Areas = append(c.Areas, *a)
	case 2:
		a.X0 += by
	case 3:
		a.X1 += by
	case 4:
		a.Y0 += by
	case 5:
		a.Y1 += by
	case 6:
		a.Turn += by
	case 7:
		a.Scale += by
	}
	return c
}

// isChecked fails the test unless Check says of a search what the document does.
func isChecked(t *testing.T, m api.Image, p api.Template, limit int, s api.Search) bool {
	t.Helper()
	want, ok := api.ErrProof, proved(m, p, limit, s)
	if ok {
		want = api.OK
	}
	if e := find.Check(m, p, limit, s); e != want {
		t.Fatalf("Check(%v, %v, %d, %v): %v instead of %v", m, p, limit, s, e, want)
	}
	return ok
}

// P7.2, P7.4: a search that was found otherwise is proved, too; whatever is proved has all matches.
func TestCheck(t *testing.T) {
	d := newDice(20)
	good, bad := 0, 0
	for range 200 {
		m, p, limit := d.image(d.from(1, 4), d.from(1, 4)), d.template(d.from(1, 3), d.from(1, 3)), d.limit()
		s := d.finer(search(t, m, p, limit))
		if !isChecked(t, m, p, limit, s) {
			t.Fatal("not proved", m, p, limit, s)
		}
		for range 10 {
			c := d.changed(s, m)
			if d.Intn(4) == 0 {
				c = d.changed(c, m)
			}
			at := limit
			if d.Intn(4) == 0 {
				at = min(most, max(0, limit+d.from(-5, 5)))
			}
			if !isChecked(t, m, p, at, c) {
				bad++
				continue
			}
			good++
			all := matchesOf(m, p, at)
			if len(c.Matches) != len(all) || slices.ContainsFunc(c.Matches, func(x api.Match) bool { return !slices.Contains(all, x) }) {
				t.Fatal("not the matches", m, p, at, c)
			}
		}
	}
	if good < 5 || bad < 500 {
		t.Error("not both ways:", good, bad)
	}
}

// P7.2: a match that is told with a distance that it does not have, and one whose distance is above the limit.
func TestCheckDistances(t *testing.T) {
	m, p := row(5, 9, 7, 3), api.Template{W: 2, H: 1, Pix: []int{5, 9}}
	s := search(t, m, p, most)
	for i, x := range s.Matches {
		for _, n := range []int{x.Distance - 1, x.Distance + 1, 0, -1, most, most + 1, least, over} {
			c := copied(s)
			c.Matches[i].Distance = n
			isChecked(t, m, p, most, c)
		}
	}
	greatest := 0
	for _, x := range s.Matches {
		greatest = max(greatest, x.Distance)
	}
	for limit := greatest - 5; limit <= greatest+5; limit++ {
		if ok := isChecked(t, m, p, limit, s); ok != (limit >= greatest) {
			t.Error(limit, ok)
		}
	}
}

// P7.2: an area without a match has to have a bound that says so.
func TestCheckBounds(t *testing.T) {
	m, p := row(5, 9, 7, 3), api.Template{W: 2, H: 1, Pix: []int{5, 9}}
	// The places 1 to 3 have the distances 6, 8 and 257, but their bound is 4.
	for _, x := range []struct {
		limit int
		areas []api.Area
		ok    bool
	}{
		{3, []api.Area{{X0: 1, X1: 3, Scale: 2}}, true},
		{4, []api.Area{{X0: 1, X1: 3, Scale: 2}}, false},
		{5, []api.Area{{X0: 1, X1: 3, Scale: 2}}, false},
		{5, []api.Area{{X0: 1, X1: 1, Scale: 2}, {X0: 2, X1: 3, Scale: 2}}, true},
		{6, []api.Area{{X0: 1, X1: 1, Scale: 2}, {X0: 2, X1: 3, Scale: 2}}, false},
		{5, []api.Area{{X0: 2, X1: 3, Scale: 2}, {X0: 1, X1: 1, Scale: 2}}, true},
		{5, []api.Area{{X0: 1, X1: 1, Scale: 2}, {X0: 3, X1: 3, Scale: 2}}, false},
		{5, []api.Area{{X0: 1, X1: 1, Scale: 2}, {X0: 2, X1: 3, Scale: 2}, {X0: 3, X1: 3, Scale: 2}}, false},
	} {
		s := search(t, m, p, x.limit)
		s.Areas = slices.DeleteFunc(s.Areas, func(a api.Area) bool { return a.Turn == 0 && a.Scale == 2 })
		s.Areas = append(s.Areas, x.areas...)
		if ok := isChecked(t, m, p, x.limit, s); ok != x.ok {
			t.Error(x, ok)
		}
	}
}

// P7.2, P1 (R7): poses and areas that are not allowed, in searches of few and of very many.
func TestCheckOfOthers(t *testing.T) {
	m, p := filled(5, 3, 7), pattern(3, 2, 7)
	for _, limit := range []int{0, 1000} {
		s := search(t, m, p, limit)
		for _, a := range badAreas(5, 3) {
			for _, n := range []int{0, len(s.Areas)} {
				c := copied(s)
				c.Areas = slices.Insert(c.Areas, n, a)
				isChecked(t, m, p, limit, c)
				isChecked(t, m, p, limit, api.Search{Areas: []api.Area{a}})
			}
		}
		for _, at := range badPoses(5, 3) {
			for _, n := range []int{0, len(s.Matches)} {
				c := copied(s)
				c.Matches = slices.Insert(c.Matches, n, api.Match{Pose: at})
				isChecked(t, m, p, limit, c)
			}
		}
		isChecked(t, m, p, limit, api.Search{})
		isChecked(t, m, p, limit, api.Search{Matches: s.Matches})
		isChecked(t, m, p, limit, api.Search{Areas: s.Areas})
	}
	long := search(t, m, p, most)
	long.Matches = slices.Repeat(long.Matches, 10000)
	long.Areas = slices.Repeat([]api.Area{{X1: 4, Y1: 2, Scale: 1}}, 1000000)
	if e := find.Check(m, p, most, long); e != api.ErrProof {
		t.Error(e)
	}
	long.Matches = nil
	if e := find.Check(m, pattern(1, 1, 200), 0, long); e != api.ErrProof {
		t.Error(e)
	}
}
