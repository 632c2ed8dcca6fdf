package recipe_test

import (
	"slices"
	"testing"

	"sightbench/api"
	"sightbench/recipe"
)

// P10.1: new books have a size of the log, and nothing else.
func TestNew(t *testing.T) {
	for _, keep := range []int{1, 2, 31, 32} {
		b, e := recipe.New(keep)
		if e != api.OK || text(b) != text(api.Books{Keep: keep}) || recipe.Check(b) != api.OK {
			t.Error(keep, b, e)
		}
	}
	for _, keep := range []int{0, -1, 33, 1000, least, over} {
		b, e := recipe.New(keep)
		fails(t, "New", isNothing(b), e, api.ErrArg)
	}
}

// P10.1: books that are valid just so.
func TestCheckLimits(t *testing.T) {
	list := []api.Books{office(), crowd(), {Keep: 1}, {Keep: 32, Next: mostEver}, {Keep: 1, Users: []uint8{operator}}, {Keep: 1, Next: 5, Users: slices.Repeat([]uint8{quality}, 16)}}
	for _, change := range []func(b *api.Books){
		func(b *api.Books) { b.Recipes[0].Approvals = nil },
		func(b *api.Books) { b.Recipes[0].Approvals = []int{2} },
		func(b *api.Books) { b.Recipes[2].Approvals = []int{0, 2} },
		func(b *api.Books) { b.Recipes[2].Approvals = []int{0, 2, 4} },
		func(b *api.Books) { b.Recipes[2].State = retired },
		func(b *api.Books) { b.Recipes[2].State, b.Recipes[3].State = retired, active },
		func(b *api.Books) { b.Recipes[2].State, b.Recipes[3].State = approved, approved },
		func(b *api.Books) { b.Keep = 32 },
		func(b *api.Books) { b.Next = mostEver },
		func(b *api.Books) { b.Log[0].Seq = 0 },
		func(b *api.Books) { b.Log[0].Seq, b.Log[1].Seq, b.Log[2].Seq = 5, 6, 7 },
		func(b *api.Books) { b.Next, b.Log[3].Seq = mostEver, mostEver-1 },
		func(b *api.Books) { b.Log = nil },
		func(b *api.Books) { b.Log = b.Log[3:] },
		func(b *api.Books) { b.Log[0].Profile = []int{0, 0}; b.Log[0].Verdict = api.Fail },
		func(b *api.Books) { b.Log[0].Profile = []int{50, 0}; b.Log[0].Verdict = api.Undecided },
		func(b *api.Books) { b.Recipes[3].Gauge = gaugeOf(50, 10, 5, 6); b.Log[1].Verdict = api.Fail },
		func(b *api.Books) { b.Recipes[0].Author, b.Recipes[0].Approvals = 1, []int{0} },
	} {
		b := office()
		change(&b)
		list = append(list, b)
	}
	for i, b := range list {
		if e := recipe.Check(b); e != api.OK || !isValid(b) {
			t.Error(i, b, e)
		}
	}
}

// P10.1: all calls with books that are not valid are ErrBad, whatever else is wrong.
func TestBadBooks(t *testing.T) {
	for i, b := range badBooks() {
		if e := recipe.Check(b); e != api.ErrBad || isValid(b) {
			t.Error(i, b, e)
		}
		for _, kind := range kinds {
			for _, n := range []int{least, 0, 2, 3, over} {
				c := call{kind: kind, user: n, number: n, role: uint8(n), gauge: gaugeOf(1, 0, 0, 1), profile: []int{1, 2}}
				if n < 0 {
					c.gauge, c.profile = api.Gauge{}, nil
				}
				r := c.made(b)
				fails(t, kind, text(r) == text(result{e: r.e}), r.e, api.ErrBad)
			}
		}
	}
}

// P10.1: Check and the definition agree for random books, and for those with a random change.
func TestCheck(t *testing.T) {
	d := newDice(100)
	var valid [2]int
	for range 20000 {
		b := d.books()
		if recipe.Check(b) != api.OK || !isValid(b) {
			t.Fatal(b)
		}
		d.spoil(&b)
		want := api.OK
		if !isValid(b) {
			want = api.ErrBad
		}
		if e := recipe.Check(b); e != want {
			t.Fatal(b, e, want)
		}
		valid[min(int(want), 1)]++
	}
	if valid[0] < 2000 || valid[1] < 2000 {
		t.Error("too few", valid)
	}
}

// spoil changes something in books.
func (d dice) spoil(b *api.Books) {
	if len(b.Recipes) > 0 && d.chance(2) {
		r := &b.Recipes[d.Intn(len(b.Recipes))]
		switch d.Intn(4) {
		case 0:
			r.Author = d.from(-1, len(b.Users))
		case 1:
			r.State = uint8(d.Intn(6))
		case 2:
			r.Approvals = append(r.Approvals, d.from(-1, len(b.Users)))
		default:
			r.Gauge = d.gauge()
		}
		return
	}
	if len(b.Log) > 0 && d.chance(2) {
		x := &b.Log[d.Intn(len(b.Log))]
		switch d.Intn(5) {
		case 0:
			x.Seq += d.from(-2, 2)
		case 1:
			x.Recipe = d.from(-1, len(b.Recipes))
		case 2:
			x.Part = []int{-1, 0, mostEver, mostEver + 1}[d.Intn(4)]
		case 3:
			x.Profile = d.profile()
		default:
			x.Verdict = uint8(d.Intn(5))
		}
		return
	}
	switch n := d.Intn(4); {
	case n == 0:
		b.Keep = d.from(-1, 34)
	case n == 1:
		b.Next += d.from(-2, 2)
	case len(b.Users) > 0:
		b.Users[d.Intn(len(b.Users))] = uint8(d.Intn(5))
	}
}

// P10.1: Same compares every field of any books, and only them.
func TestSame(t *testing.T) {
	all := append(badBooks(), office(), crowd())
	for i, b := range all {
		if !recipe.Same(b, copied(b)) {
			t.Error(i, b)
		}
	}
	for _, change := range []func(b *api.Books){
		func(b *api.Books) { b.Keep++ },
		func(b *api.Books) { b.Next++ },
		func(b *api.Books) { b.Users[4] = 1 },
		func(b *api.Books) { b.Users = b.Users[:4] },
		func(b *api.Books) { b.Users = append(b.Users, 0) },
		func(b *api.Books) { b.Recipes = b.Recipes[:3] },
		func(b *api.Books) { b.Recipes = append(b.Recipes, api.Recipe{}) },
		func(b *api.Books) { b.Recipes[3].Author = 0 },
		func(b *api.Books) { b.Recipes[3].State = 0 },
		func(b *api.Books) { b.Recipes[3].Approvals[2] = 5 },
		func(b *api.Books) { b.Recipes[3].Approvals = b.Recipes[3].Approvals[:2] },
		func(b *api.Books) { b.Recipes[3].Approvals = nil },
		func(b *api.Books) { b.Recipes[3].Gauge.Threshold++ },
		func(b *api.Books) { b.Recipes[3].Gauge.Noise++ },
		func(b *api.Books) { b.Recipes[3].Gauge.Scale.Lo.Num++ },
		func(b *api.Books) { b.Recipes[3].Gauge.Scale.Lo.Den++ },
		func(b *api.Books) { b.Recipes[3].Gauge.Scale.Hi.Num++ },
		func(b *api.Books) { b.Recipes[3].Gauge.Scale.Hi.Den++ },
		func(b *api.Books) { b.Recipes[3].Gauge.Lo.Num++ },
		func(b *api.Books) { b.Recipes[3].Gauge.Lo.Den++ },
		func(b *api.Books) { b.Recipes[3].Gauge.Hi.Num++ },
		func(b *api.Books) { b.Recipes[3].Gauge.Hi.Den++ },
		func(b *api.Books) { b.Recipes[0], b.Recipes[1] = b.Recipes[1], b.Recipes[0] },
		func(b *api.Books) { b.Log = b.Log[1:] },
		func(b *api.Books) { b.Log = append(b.Log, api.Entry{}) },
		func(b *api.Books) { b.Log[2].Seq-- },
		func(b *api.Books) { b.Log[2].Recipe-- },
		func(b *api.Books) { b.Log[2].Part++ },
		func(b *api.Books) { b.Log[2].Verdict++ },
		func(b *api.Books) { b.Log[2].Disputed = true },
		func(b *api.Books) { b.Log[2].Profile[0]++ },
		func(b *api.Books) { b.Log[2].Profile = b.Log[2].Profile[:2] },
	} {
		b := office()
		change(&b)
		if recipe.Same(b, office()) || recipe.Same(office(), b) || !recipe.Same(b, copied(b)) {
			t.Error(text(b))
		}
	}
}
