package recipe

import (
	"slices"

	"sightbench/api"
	"sightbench/gauge"
)

// AddUser returns the books with one more user, and its number.
func AddUser(b api.Books, role uint8) (api.Books, int, api.Errno) {
	if e := Check(b); e != api.OK {
		return api.Books{}, 0, e
	}
	if !isRole(role) {
		return api.Books{}, 0, api.ErrArg
	}
	user := len(b.Users)
	if user == api.MaxUsers {
		return api.Books{}, 0, api.ErrFull
	}
	b = fresh(b)
	b.Users = append(b.Users, role)
	return b, user, api.OK
}

// Draft returns the books with one more recipe, and its number.
func Draft(b api.Books, user int, g api.Gauge) (api.Books, int, api.Errno) {
	if e := admit(b, user, true, ledger(b).has(api.RoleEngineer)); e != api.OK {
		return api.Books{}, 0, e
	}
	if e := gauge.CheckGauge(g); e != api.OK {
		return api.Books{}, 0, e
	}
	recipe := len(b.Recipes)
	if recipe == api.MaxRecipe {
		return api.Books{}, 0, api.ErrFull
	}
	b = fresh(b)
	b.Recipes = append(b.Recipes, api.Recipe{Author: user, Gauge: g, State: api.StateDraft})
	return b, recipe, api.OK
}

// Approve returns the books in which a recipe has a user's approval too.
func Approve(b api.Books, user, recipe int) (api.Books, api.Errno) {
	may := func(user int) bool {
		r := b.Recipes[recipe]
		return ledger(b).mayApprove(r)(user) && !slices.Contains(r.Approvals, user)
	}
	if e := admit(b, user, isIndex(recipe, len(b.Recipes)), may); e != api.OK {
		return api.Books{}, e
	}
	if state := b.Recipes[recipe].State; state != api.StateDraft && state != api.StateApproved {
		return api.Books{}, api.ErrState
	}
	b = fresh(b)
	r := &b.Recipes[recipe]
	r.Approvals = append(r.Approvals, user)
	slices.Sort(r.Approvals)
	if ledger(b).isEnough(r.Approvals) {
		r.State = api.StateApproved
	}
	return b, api.OK
}

// Activate returns the books in which a recipe is active.
func Activate(b api.Books, user, recipe int) (api.Books, api.Errno) {
	if e := admit(b, user, isIndex(recipe, len(b.Recipes)), ledger(b).has(api.RoleEngineer)); e != api.OK {
		return api.Books{}, e
	}
	if b.Recipes[recipe].State != api.StateApproved {
		return api.Books{}, api.ErrState
	}
	b = retired(b)
	b.Recipes[recipe].State = api.StateActive
	return b, api.OK
}

// Retire returns the books in which no recipe is active.
func Retire(b api.Books, user int) (api.Books, api.Errno) {
	if e := admit(b, user, true, ledger(b).has(api.RoleQuality)); e != api.OK {
		return api.Books{}, e
	}
	if ledger(b).active() < 0 {
		return api.Books{}, api.ErrRecipe
	}
	return retired(b), api.OK
}

// Active returns the number of the active recipe.
func Active(b api.Books) (int, api.Errno) {
	if e := Check(b); e != api.OK {
		return 0, e
	}
	recipe := ledger(b).active()
	if recipe < 0 {
		return 0, api.ErrRecipe
	}
	return recipe, api.OK
}

// admit returns the error of books, or of a user who names something in them: ErrNone unless both are there, ErrUser unless the user may do what it wants.
func admit(b api.Books, user int, isThere bool, may func(user int) bool) api.Errno {
	if e := Check(b); e != api.OK {
		return e
	}
	if !isIndex(user, len(b.Users)) || !isThere {
		return api.ErrNone
	}
	if !may(user) {
		return api.ErrUser
	}
	return api.OK
}

// retired returns the books, in memory of their own, in which the active recipe, if there is one, is retired.
func retired(b api.Books) api.Books {
	b = fresh(b)
	b.Recipes = each(b.Recipes, func(r *api.Recipe) {
		if isActive(*r) {
			r.State = api.StateRetired
		}
	})
	return b
}
