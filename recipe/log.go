package recipe

import (
	"slices"

	"sightbench/api"
	"sightbench/gauge"
)

// Record returns the books with one more entry in the log, and this entry.
func Record(b api.Books, part int, profile []int) (api.Books, api.Entry, api.Errno) {
	if e := Check(b); e != api.OK {
		return api.Books{}, api.Entry{}, e
	}
	if !isCount(part) {
		return api.Books{}, api.Entry{}, api.ErrArg
	}
	recipe := ledger(b).active()
	if recipe < 0 {
		return api.Books{}, api.Entry{}, api.ErrRecipe
	}
	// The gauge is valid, so that an error is the profile's.
	_, verdict, e := gauge.Measure(b.Recipes[recipe].Gauge, profile)
	if e != api.OK {
		return api.Books{}, api.Entry{}, e
	}
	b, hasRoom := withRoom(fresh(b))
	if !hasRoom || b.Next == api.MaxCount {
		return api.Books{}, api.Entry{}, api.ErrFull
	}
	x := api.Entry{Seq: b.Next, Recipe: recipe, Part: part, Profile: slices.Clone(profile), Verdict: verdict}
	b.Next++
	b.Log = append(b.Log, x)
	// The entry that is returned shares no memory with that of the books.
	x.Profile = slices.Clone(profile)
	return b, x, api.OK
}

// Dispute returns the books in which an entry is in dispute.
func Dispute(b api.Books, user, seq int) (api.Books, api.Errno) {
	return dispute(b, user, seq, true, api.RoleOperator, api.RoleEngineer, api.RoleQuality)
}

// Settle returns the books in which an entry is not in dispute any more.
func Settle(b api.Books, user, seq int) (api.Books, api.Errno) {
	return dispute(b, user, seq, false, api.RoleQuality)
}

// Replay returns the verdict for the evidence of an entry.
func Replay(b api.Books, seq int) (uint8, api.Errno) {
	if e := Check(b); e != api.OK {
		return 0, e
	}
	i := ledger(b).entry(seq)
	if i < 0 {
		return 0, api.ErrNone
	}
	x := b.Log[i]
	_, verdict, e := gauge.Measure(b.Recipes[x.Recipe].Gauge, x.Profile)
	return verdict, e
}

// dispute returns the books in which an entry is in dispute, or is not any more, if the user has one of these roles.
func dispute(b api.Books, user, seq int, disputed bool, roles ...uint8) (api.Books, api.Errno) {
	i := ledger(b).entry(seq)
	if e := admit(b, user, i >= 0, ledger(b).has(roles...)); e != api.OK {
		return api.Books{}, e
	}
	if b.Log[i].Disputed == disputed {
		return api.Books{}, api.ErrState
	}
	b = fresh(b)
	b.Log[i].Disputed = disputed
	return b, api.OK
}

// withRoom returns books, whose log is changed, with room for one more entry: if there is none, the first one that is not in dispute is dropped. It reports whether there is room then.
func withRoom(b api.Books) (api.Books, bool) {
	if len(b.Log) < b.Keep {
		return b, true
	}
	i := slices.IndexFunc(b.Log, func(x api.Entry) bool { return !x.Disputed })
	if i < 0 {
		return b, false
	}
	b.Log = slices.Delete(b.Log, i, i+1)
	return b, true
}
