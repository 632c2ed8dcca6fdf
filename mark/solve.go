package mark

import "sightbench/api"

// row is one symbol of each column: at most one column more than there are symbols of a word.
type row [api.MarkWord + 1]symbol

// each returns the row of what the symbols of a row are changed into.
func (r row) each(change func(s symbol) symbol) row {
	for i, s := range r {
		r[i] = change(s)
	}
	return r
}

// plus returns the row of the sums of two rows.
func (r row) plus(o row) row {
	for i, s := range o {
		r[i] = r[i].plus(s)
	}
	return r
}

// relation returns polynomials a, with so many factors, and b, with as few as possible, but not more than mostB, and the last one 1: at the point of each sample, a is b times the symbol that was received. It also returns whether there are such polynomials. The samples have to be at least as many as the factors of a.
func relation(list []sample, manyA, mostB int) (a, b []symbol, ok bool) {
	var rows []row
	for _, s := range list {
		rows = append(rows, equation(s, manyA, mostB))
	}
	// The columns of a alone, powers of different points, do not depend on one another, so that b has a factor.
	factors, ok := dependence(rows, manyA+mostB)
	if !ok {
		return nil, nil, false
	}
	return factors[:manyA], factors[manyA:], true
}

// equation returns what a sample says of the factors of a, and after them those of b.
func equation(s sample, manyA, mostB int) row {
	var r row
	power := symbol(1)
	for i := range manyA {
		r[i] = power
		power = power.times(s.at)
	}
	for i := range mostB {
		r[manyA+i] = r[i].times(s.got)
	}
	return r
}

// dependence returns the factors with which the columns up to the first that depends on those before it add up to 0, its own factor being 1; and whether one of so many columns does.
func dependence(rows []row, columns int) ([]symbol, bool) {
next:
	for c := range columns {
		for i := c; i < len(rows); i++ {
			if rows[i][c] != 0 {
				rows[c], rows[i] = rows[i], rows[c]
				eliminate(rows, c)
				continue next
			}
		}
		return solution(rows, c), true
	}
	return nil, false
}

// eliminate makes the symbol c of the row c 1, and that of each other row 0.
func eliminate(rows []row, c int) {
	rows[c] = rows[c].each(rows[c][c].inverse().times)
	for i, r := range rows {
		if i != c {
			rows[i] = r.plus(rows[c].each(r[c].times))
		}
	}
}

// solution returns the factors of the column c and of those before it, in each of which only the row with its number is not 0.
func solution(rows []row, c int) []symbol {
	var factors []symbol
	for _, r := range rows[:c] {
		factors = append(factors, r[c])
	}
	return append(factors, 1)
}
