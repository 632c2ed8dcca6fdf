package recipe_test

import (
	"slices"
	"testing"

	"sightbench/api"
	"sightbench/recipe"
)

// seqs returns the numbers of the entries in a log.
func seqs(b api.Books) (list []int) {
	for _, x := range b.Log {
		list = append(list, x.Seq)
	}
	return list
}

// P10.4: an entry has the number, the active recipe, the part, the profile and the verdict; what is dropped is the first entry not in dispute.
func TestRecord(t *testing.T) {
	for _, x := range []struct {
		disputed []int
		keep     int
		want     []int
	}{
		{nil, 4, []int{3, 7, 8, 9}}, {[]int{0}, 4, []int{2, 7, 8, 9}}, {[]int{0, 1}, 4, []int{2, 3, 8, 9}}, {[]int{0, 1, 2}, 4, []int{2, 3, 7, 9}},
		{[]int{1, 2, 3}, 4, []int{3, 7, 8, 9}}, {[]int{0, 2, 3}, 4, []int{2, 7, 8, 9}}, {nil, 5, []int{2, 3, 7, 8, 9}}, {[]int{0, 1, 2, 3}, 5, []int{2, 3, 7, 8, 9}},
	} {
		b := office()
		b.Keep = x.keep
		for i := range b.Log {
			b.Log[i].Disputed = slices.Contains(x.disputed, i)
		}
		for profile, verdict := range map[[3]int]uint8{{0, 255, 0}: api.Pass, {0, 0, 0}: api.Fail, {0, 45, 0}: api.Undecided} {
			r := isMade(t, b, call{kind: "Record", number: 77, profile: profile[:]})
			want := api.Entry{Seq: 9, Recipe: 2, Part: 77, Profile: profile[:], Verdict: verdict}
			if text(r.entry) != text(want) || text(r.books.Log[len(r.books.Log)-1]) != text(want) || r.books.Next != 10 || !slices.Equal(seqs(r.books), x.want) {
				t.Error(x, profile, r)
			}
		}
	}
}

// P10.4: each error of Record, and which one comes first.
func TestRecordErrors(t *testing.T) {
	good, bad := []int{0, 255, 0}, []int{0, 256, 0}
	idle, stuck, last, end := office(), office(), office(), office()
	idle.Recipes[2].State = retired
	for i := range stuck.Log {
		stuck.Log[i].Disputed = true
	}
	last.Next, end.Next = mostEver-1, mostEver
	both := copied(stuck)
	both.Next = mostEver
	stuckIdle := copied(both)
	stuckIdle.Recipes[2].State = retired
	for _, x := range []struct {
		b       api.Books
		part    int
		profile []int
		e       api.Errno
	}{
		{office(), 0, good, api.OK}, {office(), mostEver, good, api.OK}, {last, 1, good, api.OK},
		{office(), -1, good, api.ErrArg}, {office(), mostEver + 1, good, api.ErrArg}, {office(), least, good, api.ErrArg}, {office(), over, good, api.ErrArg},
		{idle, -1, bad, api.ErrArg}, {stuckIdle, -1, bad, api.ErrArg}, {api.Books{Keep: 1}, -1, nil, api.ErrArg},
		{idle, 0, good, api.ErrRecipe}, {idle, 0, bad, api.ErrRecipe}, {stuckIdle, 0, bad, api.ErrRecipe}, {api.Books{Keep: 1}, 0, nil, api.ErrRecipe},
		{office(), 0, bad, api.ErrProfile}, {office(), 0, nil, api.ErrProfile}, {office(), 0, []int{1}, api.ErrProfile}, {office(), 0, make([]int, 65), api.ErrProfile}, {office(), 0, []int{-1, 0}, api.ErrProfile},
		{both, 0, bad, api.ErrProfile}, {stuck, 0, nil, api.ErrProfile},
		{stuck, 0, good, api.ErrFull}, {end, 0, good, api.ErrFull}, {both, 0, good, api.ErrFull},
	} {
		if r := isMade(t, x.b, call{kind: "Record", number: x.part, profile: x.profile}); r.e != x.e {
			t.Error(x, r.e)
		}
	}
	r := isMade(t, last, call{kind: "Record", profile: good})
	if r.entry.Seq != mostEver-1 || r.books.Next != mostEver {
		t.Error(r)
	}
	if r := isMade(t, r.books, call{kind: "Record", profile: good}); r.e != api.ErrFull {
		t.Error(r)
	}
}

// P10.5: each user may dispute, those of quality may settle; each error, and which one comes first.
func TestDisputeAndSettle(t *testing.T) {
	for _, x := range []struct {
		kind         string
		user, number int
		e            api.Errno
	}{
		{"Dispute", 0, 2, api.OK}, {"Dispute", 2, 7, api.OK}, {"Dispute", 3, 8, api.OK}, {"Settle", 2, 3, api.OK}, {"Settle", 4, 3, api.OK},
		{"Dispute", 5, 2, api.ErrNone}, {"Dispute", -1, 3, api.ErrNone}, {"Dispute", least, 2, api.ErrNone}, {"Dispute", over, 2, api.ErrNone},
		{"Dispute", 0, 1, api.ErrNone}, {"Dispute", 0, 0, api.ErrNone}, {"Dispute", 0, 4, api.ErrNone}, {"Dispute", 0, 9, api.ErrNone}, {"Dispute", 0, -1, api.ErrNone}, {"Dispute", 0, least, api.ErrNone}, {"Dispute", 0, over, api.ErrNone},
		{"Dispute", 0, 3, api.ErrState}, {"Dispute", 3, 3, api.ErrState},
		{"Settle", 5, 3, api.ErrNone}, {"Settle", -1, 2, api.ErrNone}, {"Settle", least, 3, api.ErrNone}, {"Settle", over, 3, api.ErrNone},
		{"Settle", 0, 1, api.ErrNone}, {"Settle", 3, 9, api.ErrNone}, {"Settle", 2, 9, api.ErrNone}, {"Settle", 2, -1, api.ErrNone}, {"Settle", 2, least, api.ErrNone}, {"Settle", 2, over, api.ErrNone},
		{"Settle", 0, 3, api.ErrUser}, {"Settle", 3, 3, api.ErrUser}, {"Settle", 1, 2, api.ErrUser},
		{"Settle", 2, 2, api.ErrState}, {"Settle", 4, 8, api.ErrState},
	} {
		if r := isMade(t, office(), call{kind: x.kind, user: x.user, number: x.number}); r.e != x.e {
			t.Error(x, r.e)
		}
	}
	for _, b := range []api.Books{{Keep: 1}, {Keep: 1, Users: []uint8{quality}}} {
		for _, kind := range []string{"Dispute", "Settle"} {
			if r := isMade(t, b, call{kind: kind}); r.e != api.ErrNone {
				t.Error(kind, r.e)
			}
		}
	}
}

// P10.5: an entry is measured again, by the gauge of its own recipe.
func TestReplay(t *testing.T) {
	b := office()
	b.Recipes[3].Gauge, b.Log[1].Verdict = gaugeOf(50, 10, 5, 6), api.Fail
	b.Recipes[1].Gauge, b.Log[2].Verdict = gaugeOf(250, 10, 0, 6), api.Undecided
	for seq, want := range map[int]uint8{2: api.Pass, 3: api.Fail, 7: api.Undecided, 8: api.Pass} {
		if verdict, e := recipe.Replay(b, seq); verdict != want || e != api.OK {
			t.Error(seq, verdict, e)
		}
	}
	for _, seq := range []int{0, 1, 4, 6, 9, -1, least, over} {
		verdict, e := recipe.Replay(b, seq)
		fails(t, "Replay", verdict == 0, e, api.ErrNone)
	}
}
