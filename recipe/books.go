package recipe

import (
	"slices"

	"sightbench/api"
	"sightbench/gauge"
)

// ledger is books with the questions that are asked about them.
type ledger api.Books

// Check returns ErrBad unless the books are valid.
func Check(b api.Books) api.Errno {
	l := ledger(b)
	for _, holds := range []func() bool{l.hasNumbers, l.hasUsers, l.hasRecipes, l.hasOneActive, l.hasLog} {
		if !holds() {
			return api.ErrBad
		}
	}
	return api.OK
}

// hasNumbers reports whether the size of the log and the number of the next entry are valid.
func (l ledger) hasNumbers() bool { return isKeep(l.Keep) && isCount(l.Next) }

// hasUsers reports whether the users are valid.
func (l ledger) hasUsers() bool {
	return len(l.Users) <= api.MaxUsers && !slices.ContainsFunc(l.Users, func(role uint8) bool { return !isRole(role) })
}

// hasRecipes reports whether each recipe is valid.
func (l ledger) hasRecipes() bool {
	return len(l.Recipes) <= api.MaxRecipe && !slices.ContainsFunc(l.Recipes, func(r api.Recipe) bool { return !l.isRecipe(r) })
}

// hasOneActive reports whether at most one recipe is active: none behind the first one, which is -1 if there is none.
func (l ledger) hasOneActive() bool {
	return !slices.ContainsFunc(l.Recipes[l.active()+1:], isActive)
}

// hasLog reports whether the log is valid.
func (l ledger) hasLog() bool {
	if len(l.Log) > l.Keep {
		return false
	}
	next := 0
	for _, x := range l.Log {
		if !within(x.Seq, next, l.Next-1) || !l.isEntry(x) {
			return false
		}
		next = x.Seq + 1
	}
	return true
}

// isRecipe reports whether a recipe is valid among the users.
func (l ledger) isRecipe(r api.Recipe) bool {
	if !l.has(api.RoleEngineer)(r.Author) || gauge.CheckGauge(r.Gauge) != api.OK || !l.areApprovals(r) {
		return false
	}
	if l.isEnough(r.Approvals) {
		return r.State == api.StateApproved || r.State == api.StateActive || r.State == api.StateRetired
	}
	return r.State == api.StateDraft
}

// areApprovals reports whether the approvals of a recipe are valid. As they increase, they are no more than there are users.
func (l ledger) areApprovals(r api.Recipe) bool {
	next, may := 0, l.mayApprove(r)
	for _, user := range r.Approvals {
		if user < next || !may(user) {
			return false
		}
		next = user + 1
	}
	return true
}

// isEnough reports whether a recipe with these approvals may be used.
func (l ledger) isEnough(approvals []int) bool {
	return len(approvals) >= 2 && slices.ContainsFunc(approvals, l.has(api.RoleQuality))
}

// isEntry reports whether an entry has a recipe, and the verdict of its gauge.
func (l ledger) isEntry(x api.Entry) bool {
	if !isIndex(x.Recipe, len(l.Recipes)) || l.Recipes[x.Recipe].State == api.StateDraft || !isCount(x.Part) {
		return false
	}
	_, verdict, e := gauge.Measure(l.Recipes[x.Recipe].Gauge, x.Profile)
	return e == api.OK && verdict == x.Verdict
}

// active returns the number of the active recipe, and -1 if there is none.
func (l ledger) active() int { return slices.IndexFunc(l.Recipes, isActive) }

// entry returns the index of the entry with this Seq, and -1 if there is none.
func (l ledger) entry(seq int) int {
	return slices.IndexFunc(l.Log, func(x api.Entry) bool { return x.Seq == seq })
}

// has returns the condition that there is such a user, with one of these roles.
func (l ledger) has(roles ...uint8) func(user int) bool {
	return func(user int) bool {
		return isIndex(user, len(l.Users)) && slices.Contains(roles, l.Users[user])
	}
}

// mayApprove returns the condition that a user may have approved a recipe.
func (l ledger) mayApprove(r api.Recipe) func(user int) bool {
	may := l.has(api.RoleEngineer, api.RoleQuality)
	return func(user int) bool { return user != r.Author && may(user) }
}

// isActive reports whether a recipe is the active one.
func isActive(r api.Recipe) bool { return r.State == api.StateActive }

// isRole reports whether there is such a role.
func isRole(role uint8) bool { return role >= api.RoleOperator && role <= api.RoleQuality }

// isIndex reports whether n is an index of a list with so many elements.
func isIndex(n, size int) bool { return within(n, 0, size-1) }
