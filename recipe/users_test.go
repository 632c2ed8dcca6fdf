package recipe_test

import (
	"slices"
	"testing"

	"sightbench/api"
	"sightbench/recipe"
)

// isMade fails the test unless a call returns what the document says, and valid books if it returns books.
func isMade(t *testing.T, b api.Books, c call) result {
	t.Helper()
	r, w := c.made(b), c.wanted(b)
	if text(r) != text(w) {
		t.Fatalf("%s\nof %+v\nis  %+v\nnot %+v", text(b), c, r, w)
	}
	if r.e == api.OK && c.kind != "Active" && c.kind != "Replay" && recipe.Check(r.books) != api.OK {
		t.Fatalf("%s\nof %+v\nis not valid: %+v", text(b), c, r)
	}
	return r
}

// P10.2 to P10.5: each call, with each of its errors, for random books.
func TestCalls(t *testing.T) {
	d := newDice(101)
	found := map[string]int{}
	for range 60000 {
		b := d.books()
		c := d.call(b)
		r := isMade(t, b, c)
		found[c.kind+" "+r.e.Error()]++
	}
	for _, c := range []struct {
		kind string
		e    []api.Errno
	}{
		{"AddUser", []api.Errno{api.OK, api.ErrArg, api.ErrFull}},
		{"Draft", []api.Errno{api.OK, api.ErrNone, api.ErrUser, api.ErrBad, api.ErrFull}},
		{"Approve", []api.Errno{api.OK, api.ErrNone, api.ErrUser, api.ErrState}},
		{"Activate", []api.Errno{api.OK, api.ErrNone, api.ErrUser, api.ErrState}},
		{"Retire", []api.Errno{api.OK, api.ErrNone, api.ErrUser, api.ErrRecipe}},
		{"Active", []api.Errno{api.OK, api.ErrRecipe}},
		{"Record", []api.Errno{api.OK, api.ErrArg, api.ErrRecipe, api.ErrProfile, api.ErrFull}},
		{"Dispute", []api.Errno{api.OK, api.ErrNone, api.ErrState}},
		{"Settle", []api.Errno{api.OK, api.ErrNone, api.ErrUser, api.ErrState}},
		{"Replay", []api.Errno{api.OK, api.ErrNone}},
	} {
		for _, e := range c.e {
			if found[c.kind+" "+e.Error()] < 50 {
				t.Error("too few", c.kind, e, found[c.kind+" "+e.Error()])
			}
		}
	}
}

// P10.2: users and recipes come behind the others; each error, and which one comes first.
func TestUsersAndDrafts(t *testing.T) {
	g, bad := gaugeOf(50, 10, 1, 2), gaugeOf(50, 65, 1, 2)
	for role := operator; role <= quality; role++ {
		if r := isMade(t, office(), call{kind: "AddUser", role: role}); r.n != 5 || !slices.Equal(r.books.Users, []uint8{engineer, engineer, quality, operator, quality, role}) {
			t.Error(r)
		}
	}
	manyUsers := api.Books{Keep: 1, Users: slices.Repeat([]uint8{engineer}, 15)}
	if r := isMade(t, manyUsers, call{kind: "AddUser", role: operator}); r.n != 15 {
		t.Error(r)
	}
	if r := isMade(t, office(), call{kind: "Draft", user: 1, gauge: g}); r.n != 4 || text(r.books.Recipes[4]) != text(api.Recipe{Author: 1, Gauge: g, State: draft}) {
		t.Error(r)
	}
	manyRecipes := crowd()
	manyRecipes.Recipes = manyRecipes.Recipes[1:]
	for i := range manyRecipes.Log {
		manyRecipes.Log[i].Recipe = 14
	}
	if r := isMade(t, manyRecipes, call{kind: "Draft", user: 2, gauge: g}); r.n != 15 {
		t.Error(r)
	}
	for _, x := range []struct {
		b api.Books
		c call
		e api.Errno
	}{
		{office(), call{kind: "AddUser", role: 0}, api.ErrArg},
		{office(), call{kind: "AddUser", role: 4}, api.ErrArg},
		{office(), call{kind: "AddUser", role: 255}, api.ErrArg},
		{crowd(), call{kind: "AddUser", role: 0}, api.ErrArg},
		{crowd(), call{kind: "AddUser", role: 1}, api.ErrFull},
		{office(), call{kind: "Draft", user: 5, gauge: bad}, api.ErrNone},
		{office(), call{kind: "Draft", user: -1, gauge: g}, api.ErrNone},
		{office(), call{kind: "Draft", user: least, gauge: g}, api.ErrNone},
		{office(), call{kind: "Draft", user: over, gauge: g}, api.ErrNone},
		{api.Books{Keep: 1}, call{kind: "Draft", gauge: g}, api.ErrNone},
		{crowd(), call{kind: "Draft", user: 16, gauge: bad}, api.ErrNone},
		{office(), call{kind: "Draft", user: 2, gauge: bad}, api.ErrUser},
		{office(), call{kind: "Draft", user: 3, gauge: g}, api.ErrUser},
		{crowd(), call{kind: "Draft", user: 1, gauge: g}, api.ErrUser},
		{office(), call{kind: "Draft", user: 1, gauge: bad}, api.ErrBad},
		{crowd(), call{kind: "Draft", user: 0, gauge: bad}, api.ErrBad},
		{crowd(), call{kind: "Draft", user: 0, gauge: g}, api.ErrFull},
	} {
		if r := isMade(t, x.b, x.c); r.e != x.e {
			t.Error(x, r.e)
		}
	}
}

// approvedBy returns the state and the approvals of the recipe that user 0 of some users drafts, after those of others.
func approvedBy(t *testing.T, users []uint8, others ...int) (uint8, []int) {
	t.Helper()
	b, _, e := recipe.Draft(api.Books{Keep: 1, Users: users}, 0, gaugeOf(50, 10, 1, 2))
	for _, user := range others {
		if e != api.OK {
			t.Fatal(users, others, e)
		}
		b, e = recipe.Approve(b, user, 0)
	}
	return b.Recipes[0].State, b.Recipes[0].Approvals
}

// P10.3: approvals in any order come into their own, and are enough as soon as there are two, of which one is of quality.
func TestApprove(t *testing.T) {
	users := []uint8{engineer, engineer, engineer, quality, quality}
	for _, x := range []struct {
		by   []int
		want uint8
	}{
		{[]int{}, draft}, {[]int{1}, draft}, {[]int{3}, draft}, {[]int{1, 2}, draft}, {[]int{2, 1}, draft},
		{[]int{1, 3}, approved}, {[]int{3, 1}, approved}, {[]int{4, 2}, approved}, {[]int{3, 4}, approved}, {[]int{4, 3}, approved},
		{[]int{2, 1, 3}, approved}, {[]int{4, 1, 3, 2}, approved}, {[]int{1, 2, 3, 4}, approved},
	} {
		sorted := slices.Sorted(slices.Values(x.by))
		if state, approvals := approvedBy(t, users, x.by...); state != x.want || !slices.Equal(approvals, sorted) {
			t.Error(x, state, approvals)
		}
	}
	for _, x := range []struct {
		user, number int
		e            api.Errno
	}{
		{5, 0, api.ErrNone}, {-1, 0, api.ErrNone}, {least, 0, api.ErrNone}, {over, 0, api.ErrNone},
		{1, 4, api.ErrNone}, {1, -1, api.ErrNone}, {1, least, api.ErrNone}, {1, over, api.ErrNone}, {3, 4, api.ErrNone}, {-1, -1, api.ErrNone},
		{3, 0, api.ErrUser}, {0, 0, api.ErrUser}, {1, 0, api.ErrUser}, {0, 1, api.ErrUser}, {1, 1, api.ErrUser}, {2, 1, api.ErrUser},
		{3, 2, api.ErrUser}, {1, 2, api.ErrUser}, {4, 2, api.ErrUser}, {1, 3, api.ErrUser}, {0, 3, api.ErrUser},
		{0, 2, api.ErrState},
		{2, 0, api.OK}, {4, 0, api.OK}, {4, 1, api.OK},
	} {
		if r := isMade(t, office(), call{kind: "Approve", user: x.user, number: x.number}); r.e != x.e {
			t.Error(x, r.e)
		}
	}
	b := office()
	b.Recipes[3].Approvals = []int{2, 4}
	if r := isMade(t, b, call{kind: "Approve", user: 0, number: 3}); r.e != api.ErrState {
		t.Error(r)
	}
}

// P10.3: an engineer, also the author, activates an approved recipe, in place of the active one, if there is one; one of quality retires that.
func TestActivateAndRetire(t *testing.T) {
	states := func(b api.Books) (list []uint8) {
		for _, r := range b.Recipes {
			list = append(list, r.State)
		}
		return list
	}
	for user := range 2 {
		r := isMade(t, office(), call{kind: "Activate", user: user, number: 1})
		if !slices.Equal(states(r.books), []uint8{draft, active, retired, retired}) {
			t.Error(r)
		}
		if n, e := recipe.Active(r.books); n != 1 || e != api.OK {
			t.Error(n, e)
		}
	}
	for _, user := range []int{2, 4} {
		r := isMade(t, office(), call{kind: "Retire", user: user})
		if !slices.Equal(states(r.books), []uint8{draft, approved, retired, retired}) {
			t.Error(r)
		}
		again := isMade(t, r.books, call{kind: "Activate", user: 1, number: 1})
		if !slices.Equal(states(again.books), []uint8{draft, active, retired, retired}) {
			t.Error(again)
		}
	}
	for _, x := range []struct {
		user, number int
		e            api.Errno
	}{
		{5, 1, api.ErrNone}, {-1, 1, api.ErrNone}, {least, 1, api.ErrNone}, {over, 1, api.ErrNone},
		{0, 4, api.ErrNone}, {0, -1, api.ErrNone}, {0, least, api.ErrNone}, {0, over, api.ErrNone}, {2, 4, api.ErrNone},
		{2, 1, api.ErrUser}, {3, 1, api.ErrUser}, {4, 0, api.ErrUser},
		{0, 0, api.ErrState}, {1, 2, api.ErrState}, {0, 3, api.ErrState},
	} {
		if r := isMade(t, office(), call{kind: "Activate", user: x.user, number: x.number}); r.e != x.e {
			t.Error(x, r.e)
		}
	}
	idle := office()
	idle.Recipes[2].State = approved
	for _, x := range []struct {
		b    api.Books
		user int
		e    api.Errno
	}{
		{office(), 5, api.ErrNone}, {office(), -1, api.ErrNone}, {office(), least, api.ErrNone}, {office(), over, api.ErrNone}, {idle, 5, api.ErrNone},
		{office(), 0, api.ErrUser}, {office(), 3, api.ErrUser}, {idle, 1, api.ErrUser}, {idle, 3, api.ErrUser},
		{idle, 2, api.ErrRecipe}, {idle, 4, api.ErrRecipe},
	} {
		if r := isMade(t, x.b, call{kind: "Retire", user: x.user}); r.e != x.e {
			t.Error(x, r.e)
		}
	}
}

// P10.3: which recipe is active.
func TestActive(t *testing.T) {
	if n, e := recipe.Active(office()); n != 2 || e != api.OK {
		t.Error(n, e)
	}
	if n, e := recipe.Active(crowd()); n != 15 || e != api.OK {
		t.Error(n, e)
	}
	b := office()
	b.Recipes[2].State = retired
	for _, b := range []api.Books{b, {Keep: 3}} {
		n, e := recipe.Active(b)
		fails(t, "Active", n == 0, e, api.ErrRecipe)
	}
}
