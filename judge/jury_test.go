package judge_test

import (
	"slices"
	"testing"

	"sightbench/api"
	"sightbench/judge"
)

// reconcile returns the verdicts of some inspectors, and their weights.
func reconcile(t *testing.T, labels [][]uint8) ([]uint8, []int) {
	t.Helper()
	verdicts, weights, e := judge.Reconcile(labels)
	if e != api.OK {
		t.Fatal(labels, e)
	}
	return verdicts, weights
}

// written returns labels that are written as digits.
func written(lists ...string) [][]uint8 {
	var labels [][]uint8
	for _, s := range lists {
		list := []uint8(s)
		for i := range list {
			list[i] -= '0'
		}
		labels = append(labels, list)
	}
	return labels
}

// P8.6: the document's example, and some by hand.
func TestReconcileExamples(t *testing.T) {
	for _, x := range []struct {
		labels   [][]uint8
		verdicts string
		weights  []int
	}{
		{written("112", "112", "210"), "112", []int{3, 3, 0}},
		{written("1"), "1", []int{1}}, {written("2"), "2", []int{1}}, {written("0"), "3", []int{0}}, {written("1", "2"), "3", []int{0, 0}}, {written("", ""), "", []int{0, 0}},
		{written("120", "000"), "123", []int{2, 0}},
		// The first two decide the first parts, so that they have weights for the last one, on which two disagree.
		{written("1111", "1110", "0222"), "1111", []int{4, 3, 0}}, {written("1112", "1110", "0001"), "1112", []int{4, 3, 0}},
		// Who disagrees with the others as often as not has no weight.
		{written("1211", "1211", "1211", "1122"), "1211", []int{4, 4, 4, 0}},
		// It ends after the tenth time, also if one more would change the weights, and not before.
		{written("021120210102", "022222022010", "121021222102", "012011011100", "210222111102", "012000212020"), "121121222112", []int{5, 3, 10, 0, 0, 0}},
		{written("20200120121011", "02200100210212", "01120222122211", "20212202012001", "02111111010002"), "21122222122211", []int{3, 0, 12, 3, 0}},
	} {
		verdicts, weights := reconcile(t, x.labels)
		if !slices.Equal(verdicts, written(x.verdicts)[0]) || !slices.Equal(weights, x.weights) {
			t.Error(x, verdicts, weights)
		}
	}
}

// P8.6: random labels of all numbers of inspectors.
func TestReconcile(t *testing.T) {
	d := newDice(40)
	var times [11]int
	for range 20000 {
		labels := d.jury(d.from(1, 8), []int{d.from(0, 10), d.from(0, 30), d.from(0, 100)}[d.Intn(3)])
		if d.Intn(2) == 0 {
			for _, list := range labels {
				for i := range list {
					list[i] = uint8(d.Intn(3))
				}
			}
		}
		verdicts, weights := reconcile(t, labels)
		want, last, n := reconciled(labels)
		if !slices.Equal(verdicts, want) || !slices.Equal(weights, last) {
			t.Fatal(labels, verdicts, weights, want, last)
		}
		times[n]++
	}
	if min(times[1], times[2], times[3], times[4], times[5], times[6]) < 20 {
		t.Error(times)
	}
	isFull := slices.Repeat([][]uint8{slices.Repeat([]uint8{2}, 100)}, 8)
	if verdicts, weights := reconcile(t, isFull); !slices.Equal(verdicts, isFull[0]) || !slices.Equal(weights, slices.Repeat([]int{100}, 8)) {
		t.Error(verdicts, weights)
	}
}

// P8.11: a part for which all inspectors that have a label agree gets that verdict, if one of them has a weight.
func TestAgreement(t *testing.T) {
	d := newDice(41)
	agreed := 0
	for range 3000 {
		labels := d.jury(d.from(1, 8), d.from(1, 20))
		verdicts, weights := reconcile(t, labels)
		for part, v := range verdicts {
			said, weight := [3]int{}, 0
			for i := range labels {
				if label := labels[i][part]; label != 0 {
					said[label]++
					weight += weights[i]
				}
			}
			if min(said[1], said[2]) > 0 || weight == 0 {
				continue
			}
			agreed++
			if v != 1 && said[1] > 0 || v != 2 && said[2] > 0 {
				t.Fatal(labels, part, verdicts, weights)
			}
		}
	}
	if agreed < 1000 {
		t.Error(agreed)
	}
}

// P8.11: exchanging Pass and Fail in all labels exchanges them in the verdicts; the order of the inspectors and of the parts does not matter.
func TestExchanges(t *testing.T) {
	d := newDice(42)
	for range 2000 {
		labels := d.jury(d.from(1, 8), d.from(1, 20))
		verdicts, weights := reconcile(t, labels)
		inspectors, parts := d.Perm(len(labels)), d.Perm(len(verdicts))
		other := make([][]uint8, len(labels))
		for i, from := range inspectors {
			for _, part := range parts {
				other[i] = append(other[i], []uint8{0, 2, 1}[labels[from][part]])
			}
		}
		changed, moved := reconcile(t, other)
		for i, from := range inspectors {
			if moved[i] != weights[from] {
				t.Fatal(labels, other, weights, moved)
			}
		}
		for i, part := range parts {
			if changed[i] != []uint8{0, 2, 1, 3}[verdicts[part]] {
				t.Fatal(labels, other, verdicts, changed)
			}
		}
	}
}

// P8.6: too few and too many inspectors and parts, lists of several lengths, and other labels.
func TestReconcileErrors(t *testing.T) {
	check := func(labels ...[]uint8) {
		t.Helper()
		verdicts, weights, e := judge.Reconcile(labels)
		fails(t, "Reconcile", len(verdicts) == 0 && len(weights) == 0, e, api.ErrArg)
	}
	check()
	check(make([][]uint8, 9)...)
	check(make([][]uint8, 9000)...)
	check(slices.Repeat([][]uint8{{1, 2}}, 9)...)
	check(make([]uint8, 101))
	check(make([]uint8, 101), make([]uint8, 101))
	check(make([]uint8, 100), make([]uint8, 101))
	check(written("12", "1")...)
	check(written("1", "12")...)
	check(written("12", "21", "")...)
	check(nil, []uint8{1})
	check([]uint8{1}, nil)
	for _, bad := range []uint8{3, 4, 128, 254, 255} {
		for i := range 3 {
			labels := written("121", "012", "220")
			labels[i][2-i] = bad
			check(labels...)
			check(labels[i])
		}
	}
}
