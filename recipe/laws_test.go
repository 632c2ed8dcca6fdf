package recipe_test

import (
	"slices"
	"testing"

	"sightbench/api"
	"sightbench/recipe"
)

// diary is what was seen of some books while calls changed them.
type diary struct {
	t       *testing.T
	d       dice
	books   api.Books
	recipes []api.Recipe
	entries map[int]api.Entry
}

// make makes a call, and keeps what it returns.
func (y *diary) make(c call) api.Errno {
	y.t.Helper()
	r := isMade(y.t, y.books, c)
	if r.e != api.OK || c.kind == "Active" || c.kind == "Replay" {
		return r.e
	}
	if c.kind == "Record" {
		y.hasRecorded(r)
	} else {
		y.keeps(y.books, r.books, -1)
	}
	y.books = r.books
	y.keepsRecipes()
	return api.OK
}

// keeps fails the test unless the log still has its entries, but for one.
func (y *diary) keeps(before, after api.Books, dropped int) {
	y.t.Helper()
	want := slices.DeleteFunc(seqs(before), func(seq int) bool { return seq == dropped })
	if !slices.Equal(seqs(after), want) {
		y.t.Fatal("lost", before, after)
	}
}

// hasRecorded fails the test unless a new entry has a verdict of a recipe that is active, and approved by others.
func (y *diary) hasRecorded(r result) {
	y.t.Helper()
	recipe := y.books.Recipes[r.entry.Recipe]
	others, hasQuality := 0, false
	for _, user := range recipe.Approvals {
		if user != recipe.Author {
			others++
			hasQuality = hasQuality || y.books.Users[user] == quality
		}
	}
	if recipe.State != active || others < 2 || !hasQuality || r.entry.Verdict < 1 || r.entry.Verdict > 3 {
		y.t.Fatal("not approved", y.books, r)
	}
	dropped := -1
	if len(y.books.Log) == y.books.Keep {
		for _, x := range slices.Backward(y.books.Log) {
			if !x.Disputed {
				dropped = x.Seq
			}
		}
	}
	without := copied(r.books)
	without.Log = without.Log[:len(without.Log)-1]
	y.keeps(y.books, without, dropped)
	if len(r.books.Log) > r.books.Keep {
		y.t.Fatal("too many", r)
	}
	y.entries[r.entry.Seq] = r.entry
}

// keepsRecipes fails the test unless authors and gauges are what they were, and entries too, but for disputes.
func (y *diary) keepsRecipes() {
	y.t.Helper()
	for i, r := range y.books.Recipes {
		if i == len(y.recipes) {
			y.recipes = append(y.recipes, r)
		}
		if r.Author != y.recipes[i].Author || r.Gauge != y.recipes[i].Gauge {
			y.t.Fatal("changed", y.books)
		}
	}
	for _, x := range y.books.Log {
		verdict, e := recipe.Replay(y.books, x.Seq)
		own := y.entries[x.Seq]
		own.Disputed = x.Disputed
		if verdict != x.Verdict || e != api.OK || text(own) != text(x) {
			y.t.Fatal("replay", y.books, x)
		}
	}
}

// start leads to a recipe that is active, if the users are such.
func (y *diary) start() {
	author := slices.Index(y.books.Users, engineer)
	y.make(call{kind: "Draft", user: author, gauge: y.d.gauge()})
	for user := range y.books.Users {
		y.make(call{kind: "Approve", user: user})
	}
	y.make(call{kind: "Activate", user: author})
}

// usual returns a call that leads on: recipes are drafted, approved and used.
func (y *diary) usual() call {
	c := y.d.call(y.books)
	if y.d.chance(2) {
		c.kind = []string{"Record", "Record", "Dispute", "Approve", "Activate"}[y.d.Intn(5)]
		c.number = y.d.Intn(len(y.books.Recipes) + 1)
		if c.kind == "Dispute" && len(y.books.Log) > 0 {
			c.number = y.books.Log[y.d.Intn(len(y.books.Log))].Seq
		}
	}
	return c
}

// P10.6, P10.7: whatever is called, there is no verdict without an approved recipe, and nothing in dispute is dropped.
func TestHistories(t *testing.T) {
	d := newDice(102)
	recorded, full := 0, 0
	for range 300 {
		b, e := recipe.New(d.from(1, []int{4, 32}[d.Intn(2)]))
		if e != api.OK {
			t.Fatal(e)
		}
		y := &diary{t: t, d: d, books: b, entries: map[int]api.Entry{}}
		for range d.Intn(6) {
			y.make(call{kind: "AddUser", role: uint8(d.from(1, 3))})
		}
		for _, role := range []uint8{engineer, engineer, quality} {
			y.make(call{kind: "AddUser", role: role})
		}
		if !d.chance(4) {
			y.start()
		}
		for range 150 {
			c := y.usual()
			if y.make(c) == api.ErrFull && c.kind == "Record" {
				full++
			}
		}
		recorded += len(y.entries)
	}
	if recorded < 2000 || full < 300 {
		t.Error("too few", recorded, full)
	}
}

// P10.8: two calls that name different entries lead to the same books in either order.
func TestOrderOfDisputes(t *testing.T) {
	d := newDice(103)
	both := 0
	for range 20000 {
		b := d.books()
		if len(b.Log) < 2 {
			continue
		}
		places := d.Perm(len(b.Log))
		var calls [2]call
		for i := range calls {
			calls[i] = call{kind: kinds[7+d.Intn(2)], user: d.Intn(len(b.Users)), number: b.Log[places[i]].Seq}
		}
		one, other := calls[0].made(b), calls[1].made(b)
		if one.e != api.OK || other.e != api.OK {
			continue
		}
		both++
		if x, y := calls[1].made(one.books), calls[0].made(other.books); !recipe.Same(x.books, y.books) || x.e != api.OK || y.e != api.OK {
			t.Fatal(b, calls)
		}
	}
	if both < 1000 {
		t.Error("too few", both)
	}
}

// P10.8: Settle after Dispute gives the books as they were.
func TestSettleAfterDispute(t *testing.T) {
	d := newDice(104)
	settled := 0
	for range 4000 {
		b := d.books()
		judge := slices.Index(b.Users, quality)
		for _, x := range b.Log {
			disputed, e := recipe.Dispute(b, d.Intn(len(b.Users)), x.Seq)
			if e == api.ErrState {
				continue
			}
			if again, e := recipe.Settle(disputed, judge, x.Seq); e != api.OK || !recipe.Same(again, b) || recipe.Same(disputed, b) {
				t.Fatal(b, x, e)
			}
			settled++
		}
	}
	if settled < 1000 {
		t.Error("too few", settled)
	}
}

// The chapter's example, call by call.
func TestExample(t *testing.T) {
	b, _ := recipe.New(2)
	y := &diary{t: t, books: b, entries: map[int]api.Entry{}}
	for _, role := range []uint8{engineer, engineer, quality, operator} {
		y.make(call{kind: "AddUser", role: role})
	}
	log := func(want ...int) {
		t.Helper()
		if !slices.Equal(seqs(y.books), want) {
			t.Fatal(y.books, want)
		}
	}
	record := func(part int, want api.Errno) {
		t.Helper()
		if e := y.make(call{kind: "Record", number: part, profile: []int{0, 255, 0}}); e != want {
			t.Fatal(part, e)
		}
	}
	step := func(kind string, user, number int, want api.Errno) {
		t.Helper()
		if e := y.make(call{kind: kind, user: user, number: number, gauge: gaugeOf(50, 10, 1, 2)}); e != want {
			t.Fatal(kind, user, number, e)
		}
	}
	state := func(want uint8) {
		t.Helper()
		if y.books.Recipes[0].State != want {
			t.Fatal(y.books)
		}
	}
	step("Draft", 0, 0, api.OK)
	step("Approve", 0, 0, api.ErrUser)
	step("Approve", 3, 0, api.ErrUser)
	step("Approve", 1, 0, api.OK)
	state(draft)
	step("Approve", 2, 0, api.OK)
	state(approved)
	record(7, api.ErrRecipe)
	step("Activate", 0, 0, api.OK)
	state(active)
	for part := 7; part <= 9; part++ {
		record(part, api.OK)
	}
	log(1, 2)
	step("Dispute", 3, 1, api.OK)
	record(10, api.OK)
	log(1, 3)
	step("Dispute", 0, 3, api.OK)
	record(11, api.ErrFull)
	step("Settle", 1, 3, api.ErrUser)
	step("Settle", 2, 3, api.OK)
	record(11, api.OK)
	log(1, 4)
}
