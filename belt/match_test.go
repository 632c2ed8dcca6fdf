package belt_test

import (
	"slices"
	"testing"

	"sightbench/api"
	"sightbench/belt"
)

// isMatched fails the test unless Match returns what the document says.
func isMatched(t *testing.T, b api.Belt, first, second []int) [][]int {
	t.Helper()
	all, e := belt.Match(b, first, second)
	want := assignments(b, first, second)
	if len(want) == 0 {
		fails(t, "Match", len(all) == 0, e, api.ErrNone)
		return nil
	}
	if e != api.OK || !equalLists(all, want) {
		t.Fatal(b, first, second, all, e, want)
	}
	return all
}

// P9.4: the document's examples, and gaps that agree just so.
func TestMatchExamples(t *testing.T) {
	still := api.Belt{Step: 10, Gate: 60, Length: 20}
	for _, x := range []struct {
		b             api.Belt
		first, second []int
		want          [][]int
	}{
		{example(), []int{0, 10, 30}, []int{100, 118}, [][]int{{1, 2}}},
		{example(), []int{0, 10, 30}, []int{100, 129}, [][]int{{0, 2}, {1, 2}}},
		{example(), []int{0, 12}, []int{5, 13}, [][]int{{0, 1}}},
		{example(), []int{0, 13}, []int{5, 13}, nil},
		{example(), []int{5, 13}, []int{0, 12}, [][]int{{0, 1}}},
		{example(), []int{5, 13}, []int{0, 13}, nil},
		{example(), []int{3, 5, 9}, []int{77}, [][]int{{0}, {1}, {2}}},
		{still, []int{0, 5, 9}, []int{50, 54}, [][]int{{1, 2}}},
		{still, []int{0, 5, 9}, []int{50, 53}, nil},
		{still, []int{0, 5, 10, 15}, []int{50, 55}, [][]int{{0, 1}, {1, 2}, {2, 3}}},
		{still, []int{0, 5, 10, 15}, []int{50, 55, 65}, [][]int{{0, 1, 3}}},
		{still, []int{0, mostEver}, []int{0, mostEver}, [][]int{{0, 1}}},
		{still, []int{0, mostEver}, []int{0, mostEver - 1}, nil},
		{still, []int{0, mostEver}, []int{1, mostEver}, nil},
	} {
		all := isMatched(t, x.b, x.first, x.second)
		if !equalLists(all, x.want) {
			t.Error(x, all)
		}
	}
}

// P9.4: of no parts at the second station there is one assignment, the empty one; more parts than at the first station have none.
func TestMatchOfFew(t *testing.T) {
	for _, first := range [][]int{nil, {}, {0}, {3, 5, 8}, {0, 1, 2, 3, 4, 5, 6, 7, 8, mostEver}} {
		for _, second := range [][]int{nil, {}} {
			all, e := belt.Match(example(), first, second)
			if e != api.OK || len(all) != 1 || len(all[0]) != 0 {
				t.Error(first, all, e)
			}
		}
		second := append(slices.Clone(first), mostEver)
		if n := len(first); n > 0 && n < 9 {
			isMatched(t, example(), first, second)
		}
		if all, e := belt.Match(example(), nil, []int{7}); len(all) != 0 || e != api.ErrNone {
			t.Error(all, e)
		}
	}
}

// P9.4: all assignments, in lexicographic order.
func TestMatch(t *testing.T) {
	d := newDice(79)
	none, one, several := 0, 0, 0
	for range 4000 {
		b := d.belt()
		if d.Intn(4) == 0 {
			b = d.anyBelt()
		}
		first, second := d.counts(d.from(0, 10)), d.counts(d.from(0, d.from(0, 10)))
		switch n := len(isMatched(t, b, first, second)); n {
		case 0:
			none++
		case 1:
			one++
		default:
			several++
		}
	}
	if min(none, one, several) < 500 {
		t.Error(none, one, several)
	}
	// With a great slip all of those that increase agree.
	slippery := api.Belt{Step: 1000, Slip: 999, Gate: 1, Length: 1}
	for n := range 11 {
		all := isMatched(t, slippery, []int{0, 1, 2, 3, 4, 5, 6, 7, 8, 9}, d.counts(10)[:n])
		if want := []int{1, 10, 45, 120, 210, 252, 210, 120, 45, 10, 1}[n]; n < 2 && len(all) != want || len(all) > want {
			t.Error(n, len(all))
		}
	}
	if all := isMatched(t, slippery, []int{0, 1, 2, 3, 4, 5, 6, 7, 8, 9}, []int{3, 14, 15, 26, 27}); len(all) != 252 {
		t.Error(len(all))
	}
}

// P9.4: whether gaps agree, at the limits of what slip allows.
func TestGaps(t *testing.T) {
	d := newDice(80)
	for range 3000 {
		b := []api.Belt{d.belt(), d.anyBelt()}[d.Intn(2)]
		slow, fast := slowAndFast(b)
		gap := d.from(1, []int{20, 1000, mostEver / fast * slow / 2}[d.Intn(3)])
		for _, other := range []int{gap*slow/fast - 1, gap * slow / fast, gap*slow/fast + 1, gap} {
			if other < 1 {
				continue
			}
			at := d.from(0, mostEver/2)
			isMatched(t, b, []int{0, gap}, []int{at, at + other})
			isMatched(t, b, []int{at, at + other}, []int{0, gap})
		}
		for _, other := range []int{gap*fast/slow - 1, gap * fast / slow, gap*fast/slow + 1} {
			if other < 1 || other > mostEver {
				continue
			}
			isMatched(t, b, []int{0, gap}, []int{mostEver - other, mostEver})
			isMatched(t, b, []int{mostEver - other, mostEver}, []int{0, gap})
		}
	}
}

// seen returns the counts at which parts pass two stations, and the indices of those that pass the second one. How far the belt moves between two parts is anything that each station's counts allow.
func (d dice) seen(b api.Belt) (first, second, indices []int) {
	slow, fast := slowAndFast(b)
	slow, fast = unit*slow, unit*fast
	var places []int
	count, at := d.Intn(50), 0
	for range d.from(0, 10) {
		first, places = append(first, count), append(places, at)
		gap := d.from(1, []int{3, 30}[d.Intn(2)])
		count, at = count+gap, at+[]int{gap * slow, gap * fast, d.from(gap*slow, gap*fast)}[d.Intn(3)]
	}
	missing := d.Intn(80)
	count = d.Intn(50)
	for i, place := range places {
		if d.Intn(100) < missing {
			continue
		}
		if n := len(indices); n > 0 {
			// So many counts may pass while the belt moves from the place of one part to that of the other.
			moved := place - places[indices[n-1]]
			least, most := (moved+fast-1)/fast, moved/slow
			count += []int{least, most, d.from(least, most)}[d.Intn(3)]
		}
		second, indices = append(second, count), append(indices, i)
	}
	return first, second, indices
}

// P9.7: for all movements of the belt the true assignment is among those that are returned; if there is just one, it is the true one.
func TestTrueAssignments(t *testing.T) {
	d := newDice(81)
	only := 0
	for range 5000 {
		b := d.belt()
		first, second, indices := d.seen(b)
		all, e := belt.Match(b, first, second)
		if e != api.OK || !slices.ContainsFunc(all, func(list []int) bool { return slices.Equal(list, indices) }) {
			t.Fatal(b, first, second, indices, all, e)
		}
		if len(all) == 1 && len(second) > 0 && len(second) < len(first) {
			only++
		}
	}
	if only < 200 {
		t.Error(only)
	}
}

// badCounts returns lists that are no counts that increase.
func badCounts() [][]int {
	return [][]int{
		{-1}, {least}, {mostEver + 1}, {over}, {0, 0}, {1, 0}, {5, 5}, {0, 1, 1}, {0, 2, 1}, {0, 1, 2, 3, 4, 5, 6, 7, 8, 8}, {-1, 0, 1}, {0, 1, mostEver + 1}, {0, over}, {least, 0}, {3, least}, {-2, -1}, {mostEver, mostEver}, {mostEver, mostEver + 1},
	}
}

// P9.4: each error, and with several of them the first one.
func TestMatchErrors(t *testing.T) {
	check := func(b api.Belt, first, second []int, want api.Errno) {
		t.Helper()
		all, e := belt.Match(b, first, second)
		fails(t, "Match", len(all) == 0, e, want)
	}
	good := []int{0, 10, 30}
	var long []int
	for i := range 11 {
		long = append(long, i)
	}
	for _, b := range badBelts() {
		check(b, good, good, api.ErrBelt)
		check(b, nil, nil, api.ErrBelt)
		check(b, long, nil, api.ErrBelt)
		check(b, []int{-1}, long, api.ErrBelt)
		check(b, nil, good, api.ErrBelt)
	}
	for _, many := range [][]int{long, make([]int, 11), make([]int, 5000)} {
		check(example(), many, nil, api.ErrMany)
		check(example(), many, good, api.ErrMany)
		check(example(), good, many, api.ErrMany)
		check(example(), nil, many, api.ErrMany)
		check(example(), many, many, api.ErrMany)
		check(example(), []int{-1}, many, api.ErrMany)
		check(example(), many, []int{-1}, api.ErrMany)
	}
	for _, bad := range badCounts() {
		check(example(), bad, good, api.ErrArg)
		check(example(), bad, nil, api.ErrArg)
		check(example(), good, bad, api.ErrArg)
		check(example(), nil, bad, api.ErrArg)
		check(example(), bad, bad, api.ErrArg)
	}
	check(example(), nil, good, api.ErrNone)
	check(example(), good[:2], good, api.ErrNone)
	check(example(), good, []int{0, 100}, api.ErrNone)
	if all := isMatched(t, example(), long[:10], long[:10]); len(all) != 1 {
		t.Error(all)
	}
}
