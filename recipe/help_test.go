package recipe_test

import (
	"fmt"
	"math/rand"
	"slices"
	"testing"

	"sightbench/api"
	"sightbench/gauge"
	"sightbench/recipe"
)

const (
	least    = -1 << 63
	over     = 1<<63 - 1
	mostEver = 1 << 40
)

// Roles and states, by the document's numbers.
const (
	operator = uint8(1)
	engineer = uint8(2)
	quality  = uint8(3)

	draft    = uint8(1)
	approved = uint8(2)
	active   = uint8(3)
	retired  = uint8(4)
)

// text writes books, or a part of them, such that nil and empty lists are the same.
func text(x any) string { return fmt.Sprintf("%+v", x) }

// isNothing reports whether books are the zero value.
func isNothing(b api.Books) bool { return text(b) == text(api.Books{}) }

// isNoEntry reports whether an entry is the zero value.
func isNoEntry(x api.Entry) bool { return text(x) == text(api.Entry{}) }

// copied returns the same books in memory of their own.
func copied(b api.Books) api.Books {
	c := api.Books{Keep: b.Keep, Next: b.Next}
	c.Users = append(c.Users, b.Users...)
	for _, r := range b.Recipes {
		c.Recipes = append(c.Recipes, api.Recipe{Author: r.Author, Gauge: r.Gauge, Approvals: append([]int{}, r.Approvals...), State: r.State})
	}
	for _, x := range b.Log {
		c.Log = append(c.Log, api.Entry{Seq: x.Seq, Recipe: x.Recipe, Part: x.Part, Profile: append([]int{}, x.Profile...), Verdict: x.Verdict, Disputed: x.Disputed})
	}
	return c
}

// measured returns the verdict of a gauge.
func measured(g api.Gauge, profile []int) uint8 {
	_, verdict, _ := gauge.Measure(g, profile)
	return verdict
}

// roleOf returns the role of a user, and 0 if there is none.
func roleOf(b api.Books, user int) uint8 {
	for i, role := range b.Users {
		if i == user {
			return role
		}
	}
	return 0
}

// recipeOf returns a recipe, and one of the state 0 if there is none.
func recipeOf(b api.Books, number int) api.Recipe {
	for i, r := range b.Recipes {
		if i == number {
			return r
		}
	}
	return api.Recipe{}
}

// entryOf returns an entry, and where it is, and -1 if there is none.
func entryOf(b api.Books, seq int) (api.Entry, int) {
	for i, x := range b.Log {
		if x.Seq == seq {
			return x, i
		}
	}
	return api.Entry{}, -1
}

// activeOf returns the number of the active recipe, and -1 if there is none.
func activeOf(b api.Books) int {
	for i, r := range b.Recipes {
		if r.State == active {
			return i
		}
	}
	return -1
}

// areEnough reports whether approvals are enough.
func areEnough(b api.Books, approvals []int) bool {
	n := 0
	for _, user := range approvals {
		if roleOf(b, user) == quality {
			n++
		}
	}
	return n > 0 && len(approvals) > 1
}

// isValid reports whether books are valid.
func isValid(b api.Books) bool {
	valid := b.Keep > 0 && b.Keep < 33 && len(b.Users) < 17 && len(b.Recipes) < 17 && b.Next >= 0 && b.Next <= mostEver && len(b.Log) <= b.Keep
	for _, role := range b.Users {
		valid = valid && role > 0 && role < 4
	}
	actives := 0
	for _, r := range b.Recipes {
		valid = valid && roleOf(b, r.Author) == engineer && gauge.CheckGauge(r.Gauge) == api.OK && r.State > 0 && r.State < 5
		for i, user := range r.Approvals {
			valid = valid && roleOf(b, user) > operator && user != r.Author && (i == 0 || r.Approvals[i-1] < user)
		}
		valid = valid && (r.State == draft) != areEnough(b, r.Approvals)
		if r.State == active {
			actives++
		}
	}
	valid = valid && actives < 2
	for i, x := range b.Log {
		r := recipeOf(b, x.Recipe)
		valid = valid && x.Seq >= 0 && x.Seq < b.Next && (i == 0 || b.Log[i-1].Seq < x.Seq) && r.State > draft && x.Part >= 0 && x.Part <= mostEver
		valid = valid && gauge.CheckProfile(x.Profile) == api.OK && x.Verdict == measured(r.Gauge, x.Profile)
	}
	return valid
}

// call is one call of the package for some books.
type call struct {
	kind         string
	user, number int
	role         uint8
	gauge        api.Gauge
	profile      []int
}

// result is what a call returns.
type result struct {
	books api.Books
	n     int
	entry api.Entry
	e     api.Errno
}

// kinds are the calls with books, but for Check and Same.
var kinds = []string{"AddUser", "Draft", "Approve", "Activate", "Retire", "Active", "Record", "Dispute", "Settle", "Replay"}

// made makes the call.
func (c call) made(b api.Books) (r result) {
	switch c.kind {
	case "AddUser":
		r.books, r.n, r.e = recipe.AddUser(b, c.role)
	case "Draft":
		r.books, r.n, r.e = recipe.Draft(b, c.user, c.gauge)
	case "Approve":
		r.books, r.e = recipe.Approve(b, c.user, c.number)
	case "Activate":
		r.books, r.e = recipe.Activate(b, c.user, c.number)
	case "Retire":
		r.books, r.e = recipe.Retire(b, c.user)
	case "Active":
		r.n, r.e = recipe.Active(b)
	case "Record":
		r.books, r.entry, r.e = recipe.Record(b, c.number, c.profile)
	case "Dispute":
		r.books, r.e = recipe.Dispute(b, c.user, c.number)
	case "Settle":
		r.books, r.e = recipe.Settle(b, c.user, c.number)
	case "Replay":
		verdict, e := recipe.Replay(b, c.number)
		r.n, r.e = int(verdict), e
	}
	return r
}

// refusal is an error that applies, or does not.
type refusal struct {
	applies bool
	e       api.Errno
}

// refusals returns the errors of the call in their order, as the document lists them, with all that may apply.
func (c call) refusals(b api.Books) []refusal {
	role, r := roleOf(b, c.user), recipeOf(b, c.number)
	x, at := entryOf(b, c.number)
	noUser := refusal{role == 0, api.ErrNone}
	noRecipe := refusal{r.State == 0, api.ErrNone}
	noEntry := refusal{at < 0, api.ErrNone}
	noEngineer := refusal{role != engineer, api.ErrUser}
	noQuality := refusal{role != quality, api.ErrUser}
	noneActive := refusal{activeOf(b) < 0, api.ErrRecipe}
	open := 0
	for _, x := range b.Log {
		if !x.Disputed {
			open++
		}
	}
	list := map[string][]refusal{
		"AddUser": {{c.role < 1 || c.role > 3, api.ErrArg}, {len(b.Users) == 16, api.ErrFull}},
		"Draft":   {noUser, noEngineer, {gauge.CheckGauge(c.gauge) != api.OK, api.ErrBad}, {len(b.Recipes) == 16, api.ErrFull}},
		"Approve": {noUser, noRecipe, {role == operator, api.ErrUser}, {c.user == r.Author, api.ErrUser}, {slices.Contains(r.Approvals, c.user), api.ErrUser},
			{r.State == active || r.State == retired, api.ErrState}},
		"Activate": {noUser, noRecipe, noEngineer, {r.State != approved, api.ErrState}},
		"Retire":   {noUser, noQuality, noneActive},
		"Active":   {noneActive},
		"Record": {{c.number < 0 || c.number > mostEver, api.ErrArg}, noneActive, {gauge.CheckProfile(c.profile) != api.OK, api.ErrProfile},
			{len(b.Log) == b.Keep && open == 0, api.ErrFull}, {b.Next == mostEver, api.ErrFull}},
		"Dispute": {noUser, noEntry, {x.Disputed, api.ErrState}},
		"Settle":  {noUser, noEntry, noQuality, {!x.Disputed, api.ErrState}},
		"Replay":  {noEntry},
	}[c.kind]
	return append([]refusal{{!isValid(b), api.ErrBad}}, list...)
}

// wanted returns what the document says that the call returns.
func (c call) wanted(b api.Books) result {
	for _, r := range c.refusals(b) {
		if r.applies {
			return result{e: r.e}
		}
	}
	w := result{books: copied(b)}
	switch c.kind {
	case "AddUser":
		w.n, w.books.Users = len(b.Users), append(w.books.Users, c.role)
	case "Draft":
		w.n, w.books.Recipes = len(b.Recipes), append(w.books.Recipes, api.Recipe{Author: c.user, Gauge: c.gauge, State: draft})
	case "Approve":
		r := &w.books.Recipes[c.number]
		r.Approvals = append(r.Approvals, c.user)
		slices.Sort(r.Approvals)
		if areEnough(b, r.Approvals) {
			r.State = approved
		}
	case "Activate", "Retire":
		if i := activeOf(b); i >= 0 {
			w.books.Recipes[i].State = retired
		}
		if c.kind == "Activate" {
			w.books.Recipes[c.number].State = active
		}
	case "Active":
		w = result{n: activeOf(b)}
	case "Record":
		w.books, w.entry = recorded(w.books, c.number, c.profile)
	case "Dispute", "Settle":
		_, i := entryOf(b, c.number)
		w.books.Log[i].Disputed = c.kind == "Dispute"
	case "Replay":
		x, _ := entryOf(b, c.number)
		w = result{n: int(x.Verdict)}
	}
	return w
}

// recorded returns books, which may be changed, with one more entry in the log, for which there is room.
func recorded(b api.Books, part int, profile []int) (api.Books, api.Entry) {
	var log []api.Entry
	for i, x := range b.Log {
		if len(b.Log) == b.Keep && len(log) == i && !x.Disputed {
			// Up to here nothing was dropped, so this is the first one that may be.
			log = append(log, b.Log[i+1:]...)
			break
		}
		log = append(log, x)
	}
	i := activeOf(b)
	x := api.Entry{Seq: b.Next, Recipe: i, Part: part, Profile: profile, Verdict: measured(b.Recipes[i].Gauge, profile)}
	b.Log, b.Next = append(log, x), b.Next+1
	return b, x
}

// fails fails the test unless a call returned that error and zero values.
func fails(t *testing.T, name string, isZero bool, e, want api.Errno) {
	t.Helper()
	if !isZero || e != want {
		t.Fatalf("%s: %v instead of %v, zero values: %v", name, e, want, isZero)
	}
}

// dice makes random values.
type dice struct{ *rand.Rand }

func newDice(seed int64) dice { return dice{rand.New(rand.NewSource(seed))} }

// from returns a number from lo to hi.
func (d dice) from(lo, hi int) int { return lo + d.Intn(hi-lo+1) }

// chance reports true one time of n.
func (d dice) chance(n int) bool { return d.Intn(n) == 0 }

// whole returns a whole number as a fraction.
func whole(n int) api.Frac { return api.Frac{Num: n, Den: 1} }

// gaugeOf returns a gauge of the scale 1.
func gaugeOf(threshold, noise, lo, hi int) api.Gauge {
	return api.Gauge{Threshold: threshold, Noise: noise, Scale: api.Span{Lo: whole(1), Hi: whole(1)}, Lo: whole(lo), Hi: whole(hi)}
}

// gauge returns a valid gauge.
func (d dice) gauge() api.Gauge {
	g := gaugeOf(d.from(1, 255), d.Intn(65), d.Intn(4), d.from(4, 8))
	g.Scale.Hi = api.Frac{Num: d.from(1, 1)*2 + 1, Den: 2}
	return g
}

// profile returns a valid profile.
func (d dice) profile() []int {
	p := make([]int, []int{2, d.from(2, 8), d.from(2, 8), 64}[d.Intn(4)])
	for i := range p {
		p[i] = []int{0, 255, d.Intn(256)}[d.Intn(3)]
	}
	return p
}

// approvals returns approvals for a recipe of an author.
func (d dice) approvals(b api.Books, author int) []int {
	var list []int
	share := d.from(1, 8)
	for user, role := range b.Users {
		if role != operator && user != author && d.chance(share) {
			list = append(list, user)
		}
	}
	return list
}

// books returns valid books, which may be such that no calls lead to.
func (d dice) books() api.Books {
	b := api.Books{Keep: d.from(1, []int{3, 32}[d.Intn(2)]), Next: d.Intn(100)}
	if d.chance(6) {
		b.Next = mostEver - d.Intn(2)
	}
	n := []int{d.Intn(6), d.Intn(17), 16}[d.Intn(3)]
	for range n {
		b.Users = append(b.Users, uint8(d.from(1, 3)))
	}
	author := slices.Index(b.Users, engineer)
	if author < 0 {
		return b
	}
	hasActive := false
	for range []int{d.Intn(6), d.Intn(17), 16}[d.Intn(3)] {
		if at := d.Intn(n); b.Users[at] == engineer {
			author = at
		}
		r := api.Recipe{Author: author, Gauge: d.gauge(), Approvals: d.approvals(b, author), State: draft}
		if areEnough(b, r.Approvals) {
			r.State = []uint8{approved, active, retired}[d.Intn(3)]
		}
		if r.State == active && hasActive {
			r.State = approved
		}
		hasActive = hasActive || r.State == active
		b.Recipes = append(b.Recipes, r)
	}
	b.Log = d.log(b)
	return b
}

// log returns a log for books that have none.
func (d dice) log(b api.Books) []api.Entry {
	var log []api.Entry
	var usable []int
	for i, r := range b.Recipes {
		if r.State != draft {
			usable = append(usable, i)
		}
	}
	if len(usable) == 0 {
		return nil
	}
	size, disputes := []int{d.Intn(b.Keep + 1), b.Keep, b.Keep}[d.Intn(3)], d.Intn(5)
	for seq := max(0, b.Next-40); seq < b.Next && len(log) < size; seq += 1 + d.Intn(2) {
		x := api.Entry{Seq: seq, Recipe: usable[d.Intn(len(usable))], Part: d.Intn(50), Profile: d.profile(), Disputed: disputes == 4 || d.Intn(4) < disputes}
		x.Verdict = measured(b.Recipes[x.Recipe].Gauge, x.Profile)
		log = append(log, x)
	}
	return log
}

// call returns a call that often has no error.
func (d dice) call(b api.Books) call {
	c := call{kind: kinds[d.Intn(len(kinds))], role: uint8(d.Intn(5)), gauge: d.gauge(), profile: d.profile()}
	c.user = d.from(-1, len(b.Users))
	if d.chance(8) {
		c.gauge.Noise = 65
	}
	if d.chance(8) {
		c.profile = append([]int{256}, c.profile...)
	}
	switch c.kind {
	case "Approve", "Activate":
		c.number = d.from(-1, len(b.Recipes))
	case "Record":
		c.number = d.from(-1, 20)
	default:
		c.number = d.Intn(b.Next + 2)
		if len(b.Log) > 0 && !d.chance(8) {
			c.number = b.Log[d.Intn(len(b.Log))].Seq
		}
	}
	return c
}

// office returns valid books with the users engineer, engineer, quality, operator, quality; a draft, an approved, the active and a retired recipe; and a full log of four entries, of which one is disputed.
func office() api.Books {
	g := gaugeOf(50, 10, 1, 2)
	b := api.Books{Keep: 4, Next: 9, Users: []uint8{engineer, engineer, quality, operator, quality}, Recipes: []api.Recipe{
		{Author: 0, Gauge: g, Approvals: []int{1}, State: draft},
		{Author: 0, Gauge: g, Approvals: []int{1, 2}, State: approved},
		{Author: 1, Gauge: g, Approvals: []int{2, 4}, State: active},
		{Author: 1, Gauge: g, Approvals: []int{0, 2, 4}, State: retired},
	}}
	for _, x := range []api.Entry{{Seq: 2, Recipe: 2, Part: 5}, {Seq: 3, Recipe: 3, Part: 6, Disputed: true}, {Seq: 7, Recipe: 1, Part: 0}, {Seq: 8, Recipe: 2, Part: mostEver}} {
		x.Profile = []int{0, 255, 0}
		x.Verdict = api.Pass
		b.Log = append(b.Log, x)
	}
	return b
}

// crowd returns valid books in which every list is as long as may be.
func crowd() api.Books {
	b := api.Books{Keep: 32, Next: mostEver}
	for range 8 {
		b.Users = append(b.Users, engineer, quality)
	}
	for range 16 {
		b.Recipes = append(b.Recipes, api.Recipe{Author: 0, Gauge: gaugeOf(50, 10, 1, 2), Approvals: []int{1, 2, 3, 4, 5, 6, 7, 8, 9, 10, 11, 12, 13, 14, 15}, State: retired})
	}
	b.Recipes[15].State = active
	for i := range 32 {
		b.Log = append(b.Log, api.Entry{Seq: mostEver - 32 + i, Recipe: 15, Part: i, Profile: slices.Repeat([]int{0, 255}, 32), Verdict: api.Fail, Disputed: i%2 == 0})
	}
	return b
}

// badBooks returns books that are not valid: each is valid but for one change.
func badBooks() []api.Books {
	var list []api.Books
	add := func(from api.Books, changes ...func(b *api.Books)) {
		for _, change := range changes {
			b := copied(from)
			change(&b)
			list = append(list, b)
		}
	}
	for _, n := range []int{least, -1, over, mostEver + 1} {
		add(api.Books{Keep: 4}, func(b *api.Books) { b.Next = n })
		add(office(),
			func(b *api.Books) { b.Keep = n },
			func(b *api.Books) { b.Next = n },
			func(b *api.Books) { b.Recipes[0].Author = n },
			func(b *api.Books) { b.Recipes[0].Approvals[0] = n },
			func(b *api.Books) { b.Recipes[2].Approvals[1] = n },
			func(b *api.Books) { b.Log[0].Seq = n },
			func(b *api.Books) { b.Log[2].Seq = n },
			func(b *api.Books) { b.Log[1].Recipe = n },
			func(b *api.Books) { b.Log[1].Part = n },
			func(b *api.Books) { b.Log[1].Profile[1] = n },
		)
	}
	for _, n := range []uint8{0, 4, 5, 255} {
		add(office(), func(b *api.Books) { b.Users[3] = n }, func(b *api.Books) { b.Log[3].Verdict = n })
		add(api.Books{Keep: 1}, func(b *api.Books) { b.Users = []uint8{n} })
	}
	for _, n := range []uint8{0, 5, 6, 255} {
		add(office(), func(b *api.Books) { b.Recipes[0].State = n }, func(b *api.Books) { b.Recipes[1].State = n }, func(b *api.Books) { b.Recipes[2].State = n })
	}
	add(api.Books{}, func(b *api.Books) {}, func(b *api.Books) { b.Keep = 33 })
	add(office(), badRecipes()...)
	add(office(), badLogs()...)
	add(crowd(),
		func(b *api.Books) { b.Users = append(b.Users, operator) },
		func(b *api.Books) { b.Recipes = append(b.Recipes, b.Recipes[0]) },
		func(b *api.Books) {
			b.Log = append([]api.Entry{{Seq: 0, Recipe: 0, Profile: []int{0, 0}, Verdict: api.Fail}}, b.Log...)
		},
		func(b *api.Books) { b.Recipes[0].Approvals = append(b.Recipes[0].Approvals, 16) },
		func(b *api.Books) { b.Recipes[0].Approvals = append([]int{0}, b.Recipes[0].Approvals...) },
		func(b *api.Books) { b.Recipes[0].Approvals = make([]int, 1000) },
		func(b *api.Books) { b.Log[0].Profile = append(b.Log[0].Profile, 0) },
	)
	return list
}

// badRecipes returns changes after which a recipe of the office is not valid.
func badRecipes() []func(b *api.Books) {
	return []func(b *api.Books){
		// No such author, or one that is no engineer.
		func(b *api.Books) { b.Recipes[0].Author = 2 },
		func(b *api.Books) { b.Recipes[0].Author = 3 },
		func(b *api.Books) { b.Recipes[0].Author = 5 },
		func(b *api.Books) { b.Users[0] = quality },
		func(b *api.Books) { b.Users = nil },
		// Gauges.
		func(b *api.Books) { b.Recipes[0].Gauge.Noise = 65 },
		func(b *api.Books) { b.Recipes[3].Gauge.Threshold = 0 },
		func(b *api.Books) { b.Recipes[3].Gauge = api.Gauge{} },
		// Approvals of the author, of operators, of nobody, twice, or in another order.
		func(b *api.Books) { b.Recipes[0].Approvals = []int{0} },
		func(b *api.Books) { b.Recipes[0].Approvals = []int{3} },
		func(b *api.Books) { b.Recipes[0].Approvals = []int{5} },
		func(b *api.Books) { b.Recipes[2].Approvals = []int{1, 2} },
		func(b *api.Books) { b.Recipes[2].Approvals = []int{2, 3} },
		func(b *api.Books) { b.Recipes[2].Approvals = []int{2, 2} },
		func(b *api.Books) { b.Recipes[2].Approvals = []int{4, 2} },
		func(b *api.Books) { b.Recipes[2].Approvals = []int{2, 4, 5} },
		func(b *api.Books) { b.Recipes[3].Approvals = []int{0, 4, 2} },
		func(b *api.Books) { b.Recipes[3].Approvals = []int{0, 2, 2} },
		// Drafts with enough approvals, and others without.
		func(b *api.Books) { b.Recipes[0].Approvals = []int{1, 2} },
		func(b *api.Books) { b.Recipes[0].Approvals = []int{2, 4} },
		func(b *api.Books) { b.Recipes[1].Approvals = []int{1} },
		func(b *api.Books) { b.Recipes[1].Approvals = []int{2} },
		func(b *api.Books) { b.Recipes[1].Approvals = nil },
		func(b *api.Books) { b.Recipes[2].Approvals = []int{4} },
		func(b *api.Books) { b.Recipes[3].Approvals = []int{0} },
		func(b *api.Books) { b.Recipes[1].State = draft },
		func(b *api.Books) { b.Recipes[2].State = draft },
		func(b *api.Books) { b.Recipes[3].State = draft },
		func(b *api.Books) { b.Recipes[0].State = approved },
		func(b *api.Books) { b.Recipes[0].State = retired },
		func(b *api.Books) { b.Recipes[0].State, b.Recipes[2].State = active, retired },
		func(b *api.Books) { b.Users[2], b.Users[4] = engineer, engineer },
		// Two that are active.
		func(b *api.Books) { b.Recipes[1].State = active },
		func(b *api.Books) { b.Recipes[3].State = active },
	}
}

// badLogs returns changes after which the log of the office is not valid.
func badLogs() []func(b *api.Books) {
	return []func(b *api.Books){
		func(b *api.Books) { b.Keep = 3 },
		func(b *api.Books) { b.Keep = 1 },
		func(b *api.Books) { b.Next = 8 },
		func(b *api.Books) { b.Next = 0 },
		// Numbers that do not increase.
		func(b *api.Books) { b.Log[1].Seq = 2 },
		func(b *api.Books) { b.Log[1].Seq = 1 },
		func(b *api.Books) { b.Log[3].Seq = 7 },
		func(b *api.Books) { b.Log[3].Seq = 9 },
		func(b *api.Books) { b.Log[0], b.Log[1] = b.Log[1], b.Log[0] },
		// Recipes that are drafts, or that there are not.
		func(b *api.Books) { b.Log[0].Recipe = 0 },
		func(b *api.Books) { b.Log[3].Recipe = 4 },
		func(b *api.Books) { b.Recipes = nil },
		func(b *api.Books) { b.Recipes = b.Recipes[:3] },
		// Profiles, and verdicts that are not what is measured.
		func(b *api.Books) { b.Log[0].Profile = nil },
		func(b *api.Books) { b.Log[0].Profile = []int{255} },
		func(b *api.Books) { b.Log[0].Profile = make([]int, 65) },
		func(b *api.Books) { b.Log[0].Profile[2] = 256 },
		func(b *api.Books) { b.Log[0].Profile, b.Log[0].Verdict = nil, 0 },
		func(b *api.Books) { b.Log[0].Profile[2], b.Log[0].Verdict = 256, 0 },
		func(b *api.Books) { b.Log[0].Profile[2], b.Log[0].Verdict = -1, 0 },
		func(b *api.Books) { b.Log[0].Profile[1] = 0 },
		func(b *api.Books) { b.Log[0].Verdict = api.Fail },
		func(b *api.Books) { b.Log[3].Verdict = api.Undecided },
		func(b *api.Books) { b.Recipes[3].Gauge = gaugeOf(50, 10, 5, 6) },
	}
}
