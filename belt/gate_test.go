package belt_test

import (
	"slices"
	"testing"

	"sightbench/api"
	"sightbench/belt"
)

// unit is how many parts a step of a place has where belts truly move, so that they need not move by whole places.
const unit = 12

// motion is a way in which a belt moves, in parts of a place.
type motion struct {
	slow, fast, most int
	kind, turn       int
}

// motion returns a way in which a belt moves.
func (d dice) motion(b api.Belt) motion {
	slow, fast := slowAndFast(b)
	return motion{unit * slow, unit * fast, unit * b.Length, d.Intn(6), d.from(1, 20)}
}

// length returns the length of a part, in parts of a place.
func (m motion) length(d dice) int { return []int{0, m.most, m.most, d.from(0, m.most)}[d.Intn(4)] }

// move returns by how much the belt moves on during a count.
func (m motion) move(d dice, count int) int {
	switch m.kind {
	case 0:
		return m.slow
	case 1:
		return m.fast
	case 2: // slow, then fast
		if count < m.turn {
			return m.slow
		}
		return m.fast
	case 3: // fast, then slow
		if count < m.turn {
			return m.fast
		}
		return m.slow
	case 4:
		return []int{m.slow, m.fast}[d.Intn(2)]
	}
	return d.from(m.slow, m.fast)
}

// isThere reports whether a part is at a place during a count, before and after which its front is at these parts of places.
func isThere(before, after, length, place int) bool {
	return after >= unit*place && before-length <= unit*place
}

// verdict returns a verdict, which is Pass so many times of 100.
func (d dice) verdict(good int) uint8 {
	if d.Intn(100) < good {
		return 1
	}
	return uint8(d.from(2, 3))
}

// item is a part as it truly is: at which place of the belt the sensor met it, its length, and the verdict that was told in time.
type item struct {
	at, start, length int
	verdict           uint8
	shut, open        bool // whether it was at the gate while this was closed, and while it was open
	fate              *api.Fate
}

// plant is a belt that truly moves, with all parts that ever passed the sensor.
type plant struct {
	t      *testing.T
	track  api.Track
	motion motion
	at     int
	items  []item
	fates  []api.Fate
}

// sense lets a part pass the sensor, if the track allows it.
func (p *plant) sense(d dice) {
	next, id, e := belt.Sense(p.track)
	if e != api.OK {
		return
	}
	if id != len(p.items) {
		p.t.Fatal(p.track, id)
	}
	p.track = next
	p.items = append(p.items, item{at: p.track.Count, start: p.at, length: p.motion.length(d)})
}

// tell tells a verdict of a part, in time or not.
func (p *plant) tell(id int, verdict uint8) {
	next, e := belt.Tell(p.track, id, verdict)
	if e != api.OK {
		return
	}
	p.track, p.items[id].verdict = next, verdict
}

// count lets a count pass.
func (p *plant) count(d dice) {
	open, e := belt.Open(p.track)
	if e != api.OK {
		p.t.Fatal(p.track, e)
	}
	before := p.at
	p.at += p.motion.move(d, p.track.Count)
	for i := range p.items {
		x := &p.items[i]
		if isThere(before-x.start, p.at-x.start, x.length, p.track.Belt.Gate) {
			x.open, x.shut = x.open || open, x.shut || !open
		}
	}
	next, fates, e := belt.Advance(p.track, 1)
	if e != api.OK {
		p.t.Fatal(p.track, e)
	}
	_, to := windowOf(p.track.Belt, p.track.Belt.Gate)
	for _, f := range fates {
		if f.Id != len(p.fates) || next.Count != p.items[f.Id].at+to {
			p.t.Fatal("not in order, or not in time", p.track, f)
		}
		p.fates = append(p.fates, f)
		p.items[f.Id].fate = &f
	}
	p.track = next
}

// run returns a plant after so many counts, during which parts pass and are told.
func run(t *testing.T, d dice, b api.Belt, counts int) plant {
	track, e := belt.NewTrack(b)
	if e != api.OK {
		t.Fatal(b, e)
	}
	p := plant{t: t, track: track, motion: d.motion(b)}
	from, to := windowOf(b, b.Gate)
	often, good, late := []int{100 / to, 200 / to, d.from(1, 100)}[d.Intn(3)], []int{100, 95, 50, 0}[d.Intn(4)], d.from(0, 40)
	for range counts {
		if d.Intn(100) <= often {
			p.sense(d)
		}
		for id := max(0, len(p.items)-d.from(1, from+2)); id < len(p.items); id++ {
			if d.Intn(100) < late {
				continue
			}
			p.tell(id, d.verdict(good))
		}
		p.count(d)
		if e := belt.CheckTrack(p.track); e != api.OK {
			t.Fatal(p.track, e)
		}
	}
	return p
}

// P9.5, P9.6: however the belt slips, a part that did not get Pass in time is at the gate only while this is open, and one that got Pass, and is not Hit, only while it is closed. A part is Hit just if it did not get Pass in time, or if another one that did not may be at the gate together with it. Each has one fate, in order, or is on the belt.
func TestGate(t *testing.T) {
	d := newDice(73)
	tally := map[string]int{}
	for range 6000 {
		b := d.belt()
		_, to := windowOf(b, b.Gate)
		p := run(t, d, b, d.from(to, 4*to))
		apart := clearOf(b)
		for i, x := range p.items {
			if (x.fate != nil) != (x.at+to <= p.track.Count) {
				t.Fatal("no fate, or one too early", b, x)
			}
			if !isPass(x.verdict) && x.shut {
				t.Fatal("not rejected", b, x)
			}
			if x.fate == nil {
				continue
			}
			near := slices.ContainsFunc(p.items, func(y item) bool {
				return !isPass(y.verdict) && y.at-x.at < apart && x.at-y.at < apart
			})
			if want := (api.Fate{Id: i, Verdict: x.verdict, Hit: near}); *x.fate != want {
				t.Fatal(b, x, *x.fate, want)
			}
			if !x.fate.Hit && x.open {
				t.Fatal("rejected", b, x)
			}
			switch {
			case !isPass(x.verdict) && x.open:
				tally["rejected"]++
			case isPass(x.verdict) && x.fate.Hit:
				tally["hit"]++
			case x.shut:
				tally["passed"]++
			}
		}
		if left := p.items[len(p.fates):]; len(left) != len(p.track.Parts) {
			t.Fatal(p.track, left)
		}
	}
	if min(tally["rejected"], tally["hit"], tally["passed"]) < 5000 {
		t.Error(tally)
	}
}

// P9.6: parts that pass Clear counts apart are Hit just if they did not get Pass in time, and one that passes a count earlier may be Hit.
func TestClearParts(t *testing.T) {
	d := newDice(74)
	for range 400 {
		b := d.belt()
		apart := clearOf(b)
		for _, gap := range []int{apart, apart + 1, apart - 1} {
			if gap == 0 {
				continue
			}
			verdicts := []uint8{uint8(d.Intn(4)), uint8(d.Intn(4))}
			track := api.Track{Belt: b}
			fates := []api.Fate{}
			for _, v := range verdicts {
				track = told(t, sensed(t, track), v)
				var some []api.Fate
				track, some = advance(t, track, gap)
				fates = append(fates, some...)
			}
			_, some := advance(t, track, 1000)
			fates = append(fates, some...)
			for i, f := range fates {
				want := !isPass(verdicts[i]) || gap < apart && !isPass(verdicts[1-i])
				if f.Id != i || f.Verdict != verdicts[i] || f.Hit != want {
					t.Fatal(b, gap, verdicts, fates)
				}
			}
			if len(fates) != 2 {
				t.Fatal(b, gap, fates)
			}
		}
	}
}

// P9.3: the document's examples.
func TestGateExamples(t *testing.T) {
	track := sensed(t, api.Track{Belt: example()})
	for count := 1; count <= 13; count++ {
		open := isOpen(t, track)
		if open != (count >= 5 && count <= 11) {
			t.Error(count, open)
		}
		var fates []api.Fate
		track, fates = advance(t, track, 1)
		if want := count == 11; want != (len(fates) == 1) || want && fates[0] != (api.Fate{Hit: true}) {
			t.Error(count, fates)
		}
		if track.Count != count || track.Next != 1 {
			t.Error(track)
		}
	}
	for _, x := range []struct {
		at  int
		hit bool
	}{{6, true}, {7, false}} {
		track := told(t, sensed(t, api.Track{Belt: example()}), api.Fail)
		track, _ = advance(t, track, x.at)
		track = told(t, sensed(t, track), api.Pass)
		_, fates := advance(t, track, 20)
		if want := []api.Fate{{Id: 0, Verdict: api.Fail, Hit: true}, {Id: 1, Verdict: api.Pass, Hit: x.hit}}; !slices.Equal(fates, want) {
			t.Error(x, fates)
		}
	}
}

// P9.3: a part with each verdict, told at each count.
func TestVerdicts(t *testing.T) {
	for verdict := range uint8(4) {
		for at := range 12 {
			track := sensed(t, api.Track{Belt: example()})
			if at > 0 {
				track, _ = advance(t, track, at)
			}
			next, e := belt.Tell(track, 0, verdict)
			inTime := at < 5 && verdict > 0
			if inTime != (e == api.OK) {
				t.Fatal(verdict, at, e)
			}
			want := api.Fate{Hit: true}
			if inTime {
				track, want = next, api.Fate{Verdict: verdict, Hit: verdict != 1}
			}
			if at < 11 {
				_, fates := advance(t, track, 11-at)
				if !slices.Equal(fates, []api.Fate{want}) {
					t.Fatal(verdict, at, fates)
				}
			}
		}
	}
}

// P9.3: all valid tracks, also those that no calls lead to.
func TestAdvance(t *testing.T) {
	d := newDice(75)
	open, closed, left := 0, 0, 0
	for range 6000 {
		track := d.track()
		if e := belt.CheckTrack(track); e != api.OK {
			t.Fatal(track, e)
		}
		if is := isOpen(t, track); is != openOf(track, track.Count+1) {
			t.Fatal(track, is)
		} else if is {
			open++
		} else {
			closed++
		}
		n := min(d.from(1, 40), mostEver-track.Count)
		if n == 0 {
			continue
		}
		next, fates := advance(t, track, n)
		want, wanted := advanced(track, n)
		if !same(next, want) || !slices.Equal(fates, wanted) {
			t.Fatal(track, n, next, want, fates, wanted)
		}
		if e := belt.CheckTrack(next); e != api.OK {
			t.Fatal(next, e)
		}
		left += len(fates)
	}
	if min(open, closed, left) < 1000 {
		t.Error(open, closed, left)
	}
}

// P9.8: how Advance is divided does not matter.
func TestDividedAdvance(t *testing.T) {
	d := newDice(76)
	for range 3000 {
		track := d.track()
		if track.Count > mostEver-60 {
			track.Count -= 60
			track.Parts = nil
		}
		n, m := d.from(1, 30), d.from(1, 30)
		half, fates := advance(t, track, n)
		last, more := advance(t, half, m)
		whole, all := advance(t, track, n+m)
		if !same(last, whole) || !slices.Equal(append(fates, more...), all) {
			t.Fatal(track, n, m)
		}
	}
}

// P9.3: the greatest numbers of counts.
func TestLongAdvance(t *testing.T) {
	track := crowded()
	next, fates := advance(t, track, 1000)
	want, wanted := advanced(track, 1000)
	if !same(next, want) || !slices.Equal(fates, wanted) || len(fates) != 3 {
		t.Error(next, fates)
	}
	track = api.Track{Belt: example(), Count: mostEver - 1000}
	if next, fates := advance(t, track, 1000); next.Count != mostEver || len(fates) != 0 {
		t.Error(next, fates)
	}
	slow := api.Belt{Step: 1000, Slip: 999, Gate: far, Length: far}
	track = told(t, sensed(t, api.Track{Belt: slow}), api.Pass)
	for count := 1000; count <= 2000000; count += 1000 {
		var fates []api.Fate
		track, fates = advance(t, track, 1000)
		if len(fates) != 0 || len(track.Parts) != 1 || track.Count != count {
			t.Fatal(track, fates)
		}
	}
	if track, fates := advance(t, track, 1); !slices.Equal(fates, []api.Fate{{Verdict: api.Pass}}) || len(track.Parts) != 0 {
		t.Error(track, fates)
	}
}

// P9.3: each error, and with several of them the first one.
func TestGateErrors(t *testing.T) {
	check := func(track api.Track, n int, want api.Errno) {
		t.Helper()
		next, fates, e := belt.Advance(track, n)
		fails(t, "Advance", isNothing(next) && len(fates) == 0, e, want)
	}
	bad := func(track api.Track, want api.Errno) {
		t.Helper()
		open, e := belt.Open(track)
		fails(t, "Open", !open, e, want)
		for _, n := range []int{1, 0, -1, 1001, least, over} {
			check(track, n, want)
		}
	}
	for _, b := range badBelts() {
		track := crowded()
		track.Belt = b
		bad(track, api.ErrBelt)
		track.Next = -1
		bad(track, api.ErrBelt)
	}
	for _, track := range badTracks() {
		bad(track, api.ErrBad)
	}
	ending := api.Track{Belt: example(), Count: mostEver - 3}
	for _, n := range []int{0, -1, -1000, 1001, 1002, least, over, over - mostEver} {
		check(crowded(), n, api.ErrArg)
		check(ending, n, api.ErrArg)
	}
	for _, n := range []int{4, 5, 1000} {
		check(ending, n, api.ErrFull)
	}
	if next, _ := advance(t, ending, 3); next.Count != mostEver {
		t.Error(next)
	}
	ending.Count = mostEver
	check(ending, 1, api.ErrFull)
	if isOpen(t, ending) {
		t.Error(ending)
	}
	ending.Parts, ending.Next = []api.Seen{{At: mostEver - 4}}, 1
	if !isOpen(t, ending) {
		t.Error(ending)
	}
}
