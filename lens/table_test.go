package lens_test

import (
	"math/big"
	"testing"

	"sightbench/api"
	"sightbench/lens"
)

// example is the table of the document's examples.
func example() []api.Knot { return []api.Knot{{At: 0, To: 0}, {At: 16, To: 32}, {At: 48, To: 40}} }

// line returns a table of so many knots.
func line(n int) []api.Knot {
	var l []api.Knot
	for i := range n {
		l = append(l, api.Knot{At: i, To: 2 * i})
	}
	return l
}

// invalidTables returns tables that are not valid.
func invalidTables() [][]api.Knot {
	list := [][]api.Knot{nil, {}, line(1), line(17), line(40)}
	for _, l := range [][]api.Knot{line(2), line(5), line(16)} {
		for i := range l {
			for _, n := range []int{least, -api.MaxAt - 1, api.MaxAt + 1, over} {
				at, to := append([]api.Knot{}, l...), append([]api.Knot{}, l...)
				at[i].At, to[i].To = n, n
				list = append(list, at, to)
			}
			if i > 0 {
				at, to := append([]api.Knot{}, l...), append([]api.Knot{}, l...)
				at[i].At, to[i].To = l[i-1].At, l[i-1].To
				list = append(list, at, to)
			}
		}
	}
	return append(list, []api.Knot{{At: 1, To: 0}, {At: 0, To: 1}}, []api.Knot{{At: 0, To: 1}, {At: 1, To: 0}}, []api.Knot{{At: 1, To: 1}, {At: 0, To: 0}}, []api.Knot{{At: 0, To: 0}, {At: 9, To: 9}, {At: 8, To: 10}})
}

// P4.1
func TestCheckKnots(t *testing.T) {
	for _, l := range invalidTables() {
		if e := lens.CheckKnots(l); e != api.ErrKnots {
			t.Errorf("CheckKnots(%v): %v", l, e)
		}
	}
	d := newDice(1)
	list := [][]api.Knot{line(2), line(16), example(), {{At: -api.MaxAt, To: -api.MaxAt}, {At: api.MaxAt, To: api.MaxAt}}, {{At: -api.MaxAt, To: api.MaxAt - 1}, {At: 1 - api.MaxAt, To: api.MaxAt}}}
	for range 200 {
		list = append(list, d.table())
	}
	for _, l := range list {
		if e := lens.CheckKnots(l); e != api.OK {
			t.Errorf("CheckKnots(%v): %v", l, e)
		}
	}
}

// P4.1: the document's examples.
func TestTableExamples(t *testing.T) {
	for _, x := range []struct{ at, to api.Frac }{
		{whole(8), whole(16)}, {whole(32), whole(36)}, {frac(1, 2), whole(1)}, {whole(0), whole(0)}, {whole(16), whole(32)}, {whole(48), whole(40)}, {frac(65, 4), frac(513, 16)},
	} {
		if y := must[api.Frac](t)(lens.Correct(example(), x.at)); y != x.to {
			t.Error("Correct", x, y)
		}
		if y := must[api.Frac](t)(lens.Distort(example(), x.to)); y != x.at {
			t.Error("Distort", x, y)
		}
	}
}

// isCorrected reports whether y is the corrected place of x by all pairs of knots around x, of which there is at least one.
func isCorrected(l []api.Knot, x, y *big.Rat) bool {
	found := false
	for i, k := range l[:len(l)-1] {
		next := l[i+1]
		if !inOrder(ratio(k.At, 1), x, ratio(next.At, 1)) {
			continue
		}
		found = true
		rise := times(minus(x, ratio(k.At, 1)), ratio(next.To-k.To, next.At-k.At))
		if plus(ratio(k.To, 1), rise).Cmp(y) != 0 {
			return false
		}
	}
	return found
}

// steep are tables with the greatest numbers.
func steep() [][]api.Knot {
	return [][]api.Knot{
		{{At: -api.MaxAt, To: -api.MaxAt}, {At: api.MaxAt, To: api.MaxAt}},
		{{At: -api.MaxAt, To: -api.MaxAt}, {At: 1 - api.MaxAt, To: api.MaxAt}},
		{{At: -api.MaxAt, To: api.MaxAt - 1}, {At: api.MaxAt, To: api.MaxAt}},
		{{At: -api.MaxAt, To: -api.MaxAt}, {At: 0, To: 1 - api.MaxAt}, {At: api.MaxAt, To: api.MaxAt}},
	}
}

// eachPlace calls see for tables with places from a least one to a greatest one: the knots, those next to them, and others.
func eachPlace(d dice, side func(k api.Knot) int, see func(l []api.Knot, x api.Frac)) {
	tables := steep()
	for range 150 {
		tables = append(tables, d.table())
	}
	for _, l := range tables {
		lo, hi := side(l[0]), side(l[len(l)-1])
		for _, k := range l {
			see(l, whole(side(k)))
		}
		see(l, frac(lo*api.MaxDen+1, api.MaxDen))
		see(l, frac(hi*api.MaxDen-1, api.MaxDen))
		for range 30 {
			see(l, d.fracIn(lo, hi))
		}
	}
}

func at(k api.Knot) int { return k.At }

func to(k api.Knot) int { return k.To }

// P4.1
func TestCorrect(t *testing.T) {
	eachPlace(newDice(2), at, func(l []api.Knot, x api.Frac) {
		y := must[api.Frac](t)(lens.Correct(l, x))
		if !isCorrected(l, rat(x), rat(y)) || !equals(y, rat(y)) {
			t.Fatalf("Correct(%v, %v): %v", l, x, y)
		}
	})
}

// P4.1
func TestDistort(t *testing.T) {
	eachPlace(newDice(3), to, func(l []api.Knot, y api.Frac) {
		x := must[api.Frac](t)(lens.Distort(l, y))
		if !isCorrected(l, rat(x), rat(y)) || !equals(x, rat(x)) {
			t.Fatalf("Distort(%v, %v): %v", l, y, x)
		}
	})
}

// outside returns fractions that are no arguments for a table from lo to hi.
func outside(lo, hi int) []api.Frac {
	list := invalid()
	list = append(list, whole(lo-1), whole(hi+1), frac(lo*api.MaxDen-1, api.MaxDen), frac(hi*api.MaxDen+1, api.MaxDen), whole(most), whole(-most), reduced(lo*3-1, 3), reduced(hi*3+1, 3))
	// These are between the ends, but not valid or too fine.
	return append(list, frac(2*lo, 2), frac(lo, 0), frac(1, api.MaxDen+1), frac(-1, api.MaxDen+1), frac(1, most), frac(-1, most), frac(most-1, most))
}

// P4.1 (R5): ErrArg for places that are not valid, not between the ends, or too fine.
func TestTableArguments(t *testing.T) {
	l := []api.Knot{{At: -4, To: -9}, {At: 0, To: 1}, {At: 5, To: 90}}
	for _, x := range outside(-4, 5) {
		fails[api.Frac](t, "Correct", api.ErrArg)(lens.Correct(l, x))
		fails[api.Span](t, "CorrectSpan", api.ErrArg)(lens.CorrectSpan(l, span(x, whole(5))))
		fails[api.Span](t, "CorrectSpan", api.ErrArg)(lens.CorrectSpan(l, span(whole(-4), x)))
		fails[api.Span](t, "CorrectSpan", api.ErrArg)(lens.CorrectSpan(l, span(x, x)))
	}
	for _, y := range outside(-9, 90) {
		fails[api.Frac](t, "Distort", api.ErrArg)(lens.Distort(l, y))
	}
	for _, s := range []api.Span{wholes(1, 0), wholes(5, -4), span(frac(1, 2), frac(1, 3)), {}} {
		fails[api.Span](t, "CorrectSpan", api.ErrArg)(lens.CorrectSpan(l, s))
	}
	for _, x := range []api.Frac{frac(1, api.MaxDen), frac(-1, api.MaxDen), frac(1, api.MaxDen-1)} {
		must[api.Frac](t)(lens.Correct(l, x))
		must[api.Frac](t)(lens.Distort(l, x))
	}
}

// P4.1 (R1, R2): ErrKnots before any other error.
func TestBadTables(t *testing.T) {
	for _, l := range invalidTables() {
		for _, x := range append(invalid(), whole(0), whole(most), frac(1, api.MaxDen+1)) {
			fails[api.Frac](t, "Correct", api.ErrKnots)(lens.Correct(l, x))
			fails[api.Frac](t, "Distort", api.ErrKnots)(lens.Distort(l, x))
			fails[api.Span](t, "CorrectSpan", api.ErrKnots)(lens.CorrectSpan(l, span(x, x)))
			fails[api.Span](t, "CorrectSpan", api.ErrKnots)(lens.CorrectSpan(l, span(whole(1), x)))
		}
	}
}

// P4.1
func TestCorrectSpan(t *testing.T) {
	if s := must[api.Span](t)(lens.CorrectSpan(example(), span(frac(1, 2), whole(32)))); s != wholes(1, 36) {
		t.Error(s)
	}
	d := newDice(4)
	for range 3000 {
		l := d.table()
		lo, hi := d.fracIn(l[0].At, l[len(l)-1].At), d.fracIn(l[0].At, l[len(l)-1].At)
		if !inOrder(rat(lo), rat(hi)) {
			lo, hi = hi, lo
		}
		if d.Intn(10) == 0 {
			hi = lo
		}
		s := must[api.Span](t)(lens.CorrectSpan(l, span(lo, hi)))
		if !isCorrected(l, rat(lo), rat(s.Lo)) || !isCorrected(l, rat(hi), rat(s.Hi)) {
			t.Fatalf("CorrectSpan(%v, %v to %v): %v", l, lo, hi, s)
		}
	}
}

// P4.6: Correct and Distort undo each other.
func TestUndo(t *testing.T) {
	undone := 0
	eachPlace(newDice(5), at, func(l []api.Knot, x api.Frac) {
		y := must[api.Frac](t)(lens.Correct(l, x))
		if y.Den > api.MaxDen {
			return
		}
		undone++
		if back := must[api.Frac](t)(lens.Distort(l, y)); back != x {
			t.Fatalf("%v: %v, %v, %v", l, x, y, back)
		}
	})
	eachPlace(newDice(6), to, func(l []api.Knot, y api.Frac) {
		x := must[api.Frac](t)(lens.Distort(l, y))
		if x.Den > api.MaxDen {
			return
		}
		undone++
		if back := must[api.Frac](t)(lens.Correct(l, x)); back != y {
			t.Fatalf("%v: %v, %v, %v", l, y, x, back)
		}
	})
	if undone < 1000 {
		t.Error(undone)
	}
}

// P4.6: Correct and Distort increase strictly.
func TestIncrease(t *testing.T) {
	for i, x := range []struct {
		side func(k api.Knot) int
		how  func(l []api.Knot, x api.Frac) (api.Frac, api.Errno)
	}{{at, lens.Correct}, {to, lens.Distort}} {
		d := newDice(7)
		eachPlace(d, x.side, func(l []api.Knot, p api.Frac) {
			q := d.fracIn(x.side(l[0]), x.side(l[len(l)-1]))
			a, b := must[api.Frac](t)(x.how(l, p)), must[api.Frac](t)(x.how(l, q))
			if rat(p).Cmp(rat(q)) != rat(a).Cmp(rat(b)) {
				t.Fatal(i, l, p, q, a, b)
			}
		})
	}
}
