package recipe_test

import (
	"slices"
	"testing"

	"sightbench/api"
	"sightbench/recipe"
)

// roomy returns a copy of a list with more memory behind its end.
func roomy[T any](list []T, filling T) []T {
	return append(slices.Clone(list), slices.Repeat([]T{filling}, 20)...)[:len(list)]
}

// spoil writes into all memory of a list, also behind its end.
func spoil[T any](list []T, filling T) {
	list = list[:cap(list)]
	for i := range list {
		list[i] = filling
	}
}

// roomyBooks returns a copy of books with more memory behind the end of every list.
func roomyBooks(b api.Books) api.Books {
	b.Users = roomy(b.Users, 99)
	b.Recipes, b.Log = roomy(b.Recipes, api.Recipe{Author: -99}), roomy(b.Log, api.Entry{Seq: -99})
	for i := range b.Recipes {
		b.Recipes[i].Approvals = roomy(b.Recipes[i].Approvals, -99)
	}
	for i := range b.Log {
		b.Log[i].Profile = roomy(b.Log[i].Profile, -99)
	}
	return b
}

// inner returns the lists of the recipes and of the entries of books.
func inner(b api.Books) (lists [][]int) {
	for _, r := range b.Recipes {
		lists = append(lists, r.Approvals)
	}
	for _, x := range b.Log {
		lists = append(lists, x.Profile)
	}
	return lists
}

// wholeText returns the text of books with all memory behind the ends of their lists.
func wholeText(b api.Books) string {
	lists := inner(b)
	for i, list := range lists {
		lists[i] = list[:cap(list)]
	}
	b.Users, b.Recipes, b.Log = b.Users[:cap(b.Users)], b.Recipes[:cap(b.Recipes)], b.Log[:cap(b.Log)]
	return text(b) + text(lists)
}

// spoilApart spoils every list of books, and fails the test if that changes another one.
func spoilApart(t *testing.T, b api.Books) {
	t.Helper()
	lists, wanted := inner(b), inner(copied(b))
	for i, list := range lists {
		spoil(list, -1)
		for k := i + 1; k < len(lists); k++ {
			if !slices.Equal(lists[k], wanted[k]) {
				t.Fatal("shared", b)
			}
		}
	}
	spoil(b.Users, 77)
	spoil(b.Recipes, api.Recipe{Author: -7})
	spoil(b.Log, api.Entry{Seq: -7})
}

// P1 (R3): books are only read, also the memory behind their lists; results share no memory with them, nor with one another, and nothing is kept from one call to the next.
func TestMemory(t *testing.T) {
	d := newDice(105)
	for range 4000 {
		own := d.books()
		c := d.call(own)
		want := text(c.wanted(own))
		b := roomyBooks(own)
		before := wholeText(b)
		c.profile = roomy(c.profile, -99)
		profile := text(c.profile[:cap(c.profile)])
		first := c.made(b)
		second := c.made(b)
		for _, r := range []result{first, second} {
			if text(r) != want {
				t.Fatal("kept", own, c)
			}
			spoil(r.entry.Profile, -3)
			if len(r.books.Log) > 0 && r.entry.Profile != nil {
				r.entry.Profile = r.books.Log[len(r.books.Log)-1].Profile
				if text(r.entry.Profile) != text(c.profile) {
					t.Fatal("shared", own, c)
				}
			}
			spoilApart(t, r.books)
		}
		if wholeText(b) != before || text(c.profile[:cap(c.profile)]) != profile {
			t.Fatal("changed", own, c)
		}
		if e := recipe.Check(b); e != api.OK || !recipe.Same(b, own) || wholeText(b) != before {
			t.Fatal("changed", own, e)
		}
	}
}

// P1 (R4): nil and empty lists are the same.
func TestEmptyLists(t *testing.T) {
	none := api.Books{Keep: 2, Next: 4}
	empty := api.Books{Keep: 2, Next: 4, Users: []uint8{}, Recipes: []api.Recipe{}, Log: []api.Entry{}}
	if !recipe.Same(none, empty) || !recipe.Same(empty, none) || recipe.Check(none) != api.OK || recipe.Check(empty) != api.OK {
		t.Error(none, empty)
	}
	for _, b := range []api.Books{none, empty} {
		for _, kind := range kinds {
			isMade(t, b, call{kind: kind, role: engineer, gauge: gaugeOf(50, 10, 1, 2), profile: []int{1, 2}})
		}
	}
	one, other := office(), office()
	one.Recipes[0].Approvals, other.Recipes[0].Approvals = nil, []int{}
	one.Log[0].Profile, other.Log[0].Profile = nil, []int{}
	if !recipe.Same(one, other) || !recipe.Same(other, one) {
		t.Error(one, other)
	}
	one.Log[0].Profile, other.Log[0].Profile = []int{0, 255, 0}, []int{0, 255, 0}
	for _, b := range []api.Books{one, other} {
		for user := range 5 {
			isMade(t, b, call{kind: "Approve", user: user})
			isMade(t, b, call{kind: "Activate", user: user})
		}
	}
	for _, p := range [][]int{nil, {}} {
		isMade(t, office(), call{kind: "Record", profile: p})
	}
}

// P1 (R5, R7): no call panics, whatever the arguments are, and none takes a number for another one.
func TestExtremes(t *testing.T) {
	d := newDice(106)
	numbers := []int{least, least + 1, -1 << 40, -2, -1, 0, 0, 0, 1, 1, 2, 3, 4, 5, 7, 8, 9, 15, 16, 17, 31, 32, 33, 256, 1 << 32, mostEver - 1, mostEver, mostEver + 1, over - 1, over}
	n := func() int { return numbers[d.Intn(len(numbers))] }
	list := func(size int) []int {
		var l []int
		for range d.Intn(size) {
			l = append(l, n())
		}
		return l
	}
	bad := append(badBooks(), office(), crowd())
	for range 30000 {
		b := copied(bad[d.Intn(len(bad))])
		if d.chance(3) {
			b = d.books()
		}
		for range d.Intn(3) {
			d.wreck(&b, n, list)
		}
		c := call{kind: kinds[d.Intn(len(kinds))], user: n(), number: n(), role: uint8(n()), gauge: gaugeOf(n(), n(), n(), n()), profile: list(70)}
		isMade(t, b, c)
		if (recipe.Check(b) == api.OK) != isValid(b) {
			t.Fatal(b)
		}
		if other := bad[d.Intn(len(bad))]; recipe.Same(b, other) != (text(b) == text(other)) {
			t.Fatal(b, other)
		}
	}
}

// wreck puts any numbers into books.
func (d dice) wreck(b *api.Books, n func() int, list func(size int) []int) {
	switch d.Intn(8) {
	case 0:
		b.Keep = n()
	case 1:
		b.Next = n()
	case 2:
		b.Users = append(b.Users, uint8(n()))
	case 3:
		b.Users = nil
	case 4:
		b.Recipes = append(b.Recipes, api.Recipe{Author: n(), Gauge: gaugeOf(n(), n(), n(), n()), Approvals: list(20), State: uint8(n())})
	case 5:
		b.Recipes = nil
	default:
		b.Log = append(b.Log, api.Entry{Seq: n(), Recipe: n(), Part: n(), Profile: list(70), Verdict: uint8(n()), Disputed: d.chance(2)})
	}
}
