package splice

import (
	"math"
	"testing"

	"leapfrog/api"
)

// from2 are settings of 5 in the list of no bits, from 2 on.
func from2() api.SpliceConf {
	return api.SpliceConf{Me: ref(5, ""), From: ref(2, ""), Owner: own}
}

// step is one to the right, from one to another: the lock that is told who stands there, and its Free.
func step(c api.SpliceConf, from, to api.Ref) []row {
	return []row{{asks(c, from, api.QLock), ok(to)}, {asks(c, from, api.QFree), yes}}
}

// P13.1, Lock without a last one: who is gone or dead is an end; any other answer is waited for, and it is asked again.
func TestLockFirst(t *testing.T) {
	c := from2()
	for _, k := range []api.AnswerKind{api.AGone, api.ADead} {
		for _, a := range []api.Answer{kind(k), filled(k)} {
			wants(t, played(t, c, row{asks(c, c.From, api.QLock), a}), over(api.ErrAgain))
		}
	}
	for _, a := range answers(api.AOK, api.AGone, api.ADead) {
		s := begin(t, c)
		for range 3 {
			play(t, s, row{asks(c, c.From, api.QLock), a}, row{want: waits()})
		}
		wants(t, s, asks(c, c.From, api.QLock))
	}
}

// P13.1, Lock with a last one: it goes back to that, behind a tick, and has no last one then.
func TestLockBack(t *testing.T) {
	c := from2()
	three, four := ref(3, ""), ref(4, "")
	for _, k := range []api.AnswerKind{api.AGone, api.ADead} {
		for _, a := range []api.Answer{kind(k), filled(k)} {
			rows := append(step(c, c.From, three), row{asks(c, three, api.QLock), a}, row{want: waits()})
			wants(t, played(t, c, append(rows, row{asks(c, c.From, api.QLock), gone})...), over(api.ErrAgain))
			// Two steps: of the two behind it the nearer one alone is known.
			rows = append(append(step(c, c.From, three), step(c, three, four)...), row{asks(c, four, api.QLock), a}, row{want: waits()})
			wants(t, played(t, c, append(rows, row{asks(c, three, api.QLock), dead})...), over(api.ErrAgain))
			// From the last one it goes right again: then there is a last one again.
			s := played(t, c, append(append(rows, step(c, three, four)...), row{asks(c, four, api.QLock), a}, row{want: waits()})...)
			wants(t, s, asks(c, three, api.QLock))
		}
	}
}

// P13.1, Lock with a last one: any other answer is waited for; the last one stays known, there and by other waits.
func TestLockWaits(t *testing.T) {
	c := from2()
	three, twin := ref(3, ""), ref(5, "1")
	for _, a := range answers(api.AOK, api.AGone, api.ADead) {
		s := played(t, c, step(c, c.From, three)...)
		for range 2 {
			play(t, s, row{asks(c, three, api.QLock), a}, row{want: waits()})
		}
		play(t, s, row{asks(c, three, api.QLock), ok(twin)}, row{asks(c, twin, api.QRead), gone}, row{asks(c, three, api.QFree), yes}, row{want: waits()})
		play(t, s, row{asks(c, three, api.QLock), dead}, row{want: waits()})
		wants(t, s, asks(c, c.From, api.QLock))
	}
}

// P13.1, Lock: of AOK the Right alone counts.
func TestLockMarked(t *testing.T) {
	c := from2()
	for _, a := range []api.Answer{
		{Kind: api.AOK, Right: tail(0)},
		{Kind: api.AOK, Right: tail(0), Marked: true},
		{Kind: api.AOK, Right: tail(0), Left: ref(4, ""), Value: []byte("abc")},
	} {
		wants(t, played(t, c, row{asks(c, c.From, api.QLock), a}), asks(c, c.Me, api.QRec, c.From, tail(0)))
	}
}

// P13.1, Look: a Right that is not above p: Free, and over.
func TestLookNotAbove(t *testing.T) {
	for _, c := range []api.SpliceConf{from2(), {W: v("1"), Me: ref(5, "10"), From: ref(2, "11"), Owner: own}} {
		for _, right := range []api.Ref{
			{}, c.From, ref(2, ""), ref(1, ""), ref(0, "10"), head(0), head(2), {ID: 9, Key: at(2)},
			{Key: api.Key{N: top}}, {Key: api.Key{Rank: -1, N: 9}}, {Key: api.Key{Rank: math.MinInt}}, {Key: api.Key{Rank: api.RLow, N: top}},
		} {
			for _, a := range answers() {
				s := played(t, c, row{asks(c, c.From, api.QLock), ok(right)}, row{asks(c, c.From, api.QFree), a})
				wants(t, s, over(api.ErrAgain))
			}
		}
	}
}

// P13.1, Look: p's own key may be far from the first one's: it is held against p's, not From's.
func TestLookNotAboveThere(t *testing.T) {
	c := from2()
	four := ref(4, "")
	for _, right := range []api.Ref{four, ref(3, ""), c.From, ref(1, ""), head(0)} {
		s := played(t, c, append(step(c, c.From, four), row{asks(c, four, api.QLock), ok(right)}, row{asks(c, four, api.QFree), yes})...)
		wants(t, s, over(api.ErrAgain))
	}
}

// P13.1, Look: a Right below Me: Free, and that one is locked, whatever is answered.
func TestLookBelow(t *testing.T) {
	for _, c := range []api.SpliceConf{from2(), {W: v("1"), Me: ref(5, "10"), From: ref(2, "11"), Owner: own}} {
		for _, right := range []api.Ref{ref(3, ""), ref(4, "11"), {ID: -7, Key: at(3), Vec: api.Vec{Len: -1}}, {ID: c.Me.ID, Key: at(4)}} {
			for _, a := range answers() {
				s := played(t, c, row{asks(c, c.From, api.QLock), ok(right)}, row{asks(c, c.From, api.QFree), a})
				wants(t, s, asks(c, right, api.QLock))
			}
		}
	}
	// Below and above are as key.Compare says, of any two.
	c := plain("", 0)
	odd := api.Ref{ID: 4, Key: api.Key{Rank: api.RLow, N: 3}}
	wants(t, played(t, c, step(c, head(0), odd)...), asks(c, odd, api.QLock))
}

// P13.1, Look: a Right of Me's key, in a list of bits: Free, a tick, and the lock again.
func TestLookSameInBits(t *testing.T) {
	for _, c := range []api.SpliceConf{plain("1", 1), plain("10", 1), plain("10", 2)} {
		for _, right := range []api.Ref{c.Me, ref(5, "10"), {ID: 99, Key: at(5)}} {
			for _, a := range answers() {
				s := played(t, c, row{asks(c, c.From, api.QLock), ok(right)}, row{asks(c, c.From, api.QFree), a}, row{want: waits()})
				wants(t, s, asks(c, c.From, api.QLock))
			}
		}
	}
}

// P13.1, Look: a Right of Me's key, in the list of no bits: it is read, whoever it is, also if Me has bits.
func TestLookSame(t *testing.T) {
	for _, c := range []api.SpliceConf{from2(), plain("", 0), plain("10", 0)} {
		for _, right := range []api.Ref{c.Me, ref(5, "10"), {ID: 99, Key: at(5)}} {
			wants(t, played(t, c, row{asks(c, c.From, api.QLock), ok(right)}), asks(c, right, api.QRead))
		}
	}
}

// P13.1, Look: a Right above Me: Me is to stand in between.
func TestLookAbove(t *testing.T) {
	for _, c := range []api.SpliceConf{from2(), plain("", 0), plain("10", 0), plain("10", 2)} {
		for _, right := range []api.Ref{
			ref(6, ""), {ID: 3, Key: at(top)}, tail(0), tail(2), {ID: c.Me.ID, Key: at(6)},
			{Key: api.Key{Rank: api.RHigh, N: 3}}, {Key: api.Key{Rank: 4}}, {Key: api.Key{Rank: math.MaxInt, N: top}, Vec: api.Vec{Len: -1}},
		} {
			wants(t, played(t, c, row{asks(c, c.From, api.QLock), ok(right)}), asks(c, c.Me, api.QRec, c.From, right))
		}
	}
}

// P13.1, Same: who is there and not marked: Free, and over with both sides.
func TestSameThere(t *testing.T) {
	c := from2()
	twin := api.Ref{ID: 99, Key: at(5), Vec: v("1")}
	all := filled(api.AOK)
	all.Marked = false
	for _, there := range []api.Answer{yes, all} {
		for _, a := range answers() {
			s := played(t, c, row{asks(c, c.From, api.QLock), ok(twin)}, row{asks(c, twin, api.QRead), there}, row{asks(c, c.From, api.QFree), a})
			wants(t, s, over(api.ErrExists, c.From, twin))
		}
	}
	// The left side is p, not From.
	four := ref(4, "")
	s := played(t, c, append(step(c, c.From, four), row{asks(c, four, api.QLock), ok(twin)}, row{asks(c, twin, api.QRead), yes}, row{asks(c, four, api.QFree), yes})...)
	wants(t, s, over(api.ErrExists, four, twin))
}

// P13.1, Same: any other answer, the marked one's among them: Free, a tick, and the lock again.
func TestSameNot(t *testing.T) {
	c := from2()
	twin := api.Ref{ID: 99, Key: at(5), Vec: v("1")}
	for _, b := range append(answers(api.AOK), filled(api.AOK), api.Answer{Kind: api.AOK, Marked: true}) {
		for _, a := range answers() {
			s := played(t, c, row{asks(c, c.From, api.QLock), ok(twin)}, row{asks(c, twin, api.QRead), b}, row{asks(c, c.From, api.QFree), a}, row{want: waits()})
			wants(t, s, asks(c, c.From, api.QLock))
		}
	}
}

// in are the rows of a splice up to a place, between two, at which it was told AOK each time.
func in(c api.SpliceConf, p, r api.Ref, n int) []row {
	return []row{
		{asks(c, p, api.QLock), ok(r)},
		{asks(c, c.Me, api.QRec, p, r), yes},
		{asks(c, p, api.QRight, c.Me), yes},
		{asks(c, r, api.QLeft, c.Me), yes},
		{asks(c, c.Me, api.QFree), yes},
		{asks(c, p, api.QFree), yes},
	}[:n]
}

// P13.1, Enter.
func TestEnter(t *testing.T) {
	for _, c := range []api.SpliceConf{from2(), plain("10", 1)} {
		r := ref(8, "10")
		enter := asks(c, c.Me, api.QRec, c.From, r)
		for _, b := range answers() {
			s := played(t, c, append(in(c, c.From, r, 1), row{enter, b})...)
			if b.Kind == api.AOK {
				wants(t, s, asks(c, c.From, api.QRight, c.Me))
				continue
			}
			for _, a := range answers() {
				s := played(t, c, append(in(c, c.From, r, 1), row{enter, b}, row{asks(c, c.From, api.QFree), a})...)
				want := over(api.ErrTaken)
				if b.Kind == api.ADead {
					want = over(api.ErrDead)
				}
				wants(t, s, want)
			}
		}
	}
}

// P13.1, Right: AOK: on to Left; a dead one that had Me to its right, by ID alone: on to Left, and nothing is freed; other dead ones: Out, and nothing is freed; any other: Out.
func TestRight(t *testing.T) {
	c := plain("10", 1)
	r := ref(8, "10")
	rows := in(c, c.From, r, 2)
	right := asks(c, c.From, api.QRight, c.Me)
	left := asks(c, r, api.QLeft, c.Me)
	for _, a := range []api.Answer{yes, filled(api.AOK), ok(c.Me)} {
		wants(t, played(t, c, append(rows, row{right, a})...), left)
	}
	for _, had := range []api.Ref{c.Me, {ID: c.Me.ID}, {ID: c.Me.ID, Key: at(77), Vec: v("0")}} {
		for _, marked := range []bool{false, true} {
			a := api.Answer{Kind: api.ADead, Marked: marked, Left: head(2), Right: had}
			s := played(t, c, append(rows, row{right, a}, row{left, yes}, row{asks(c, c.Me, api.QFree), yes})...)
			wants(t, s, over(api.OK, c.From, r))
			s = played(t, c, append(rows, row{right, a}, row{left, dead}, row{asks(c, c.Me, api.QFree), dead})...)
			wants(t, s, over(api.ErrDead))
		}
	}
	for _, had := range []api.Ref{{}, r, tail(2), {ID: 3, Key: c.Me.Key, Vec: c.Me.Vec}, {ID: -c.Me.ID, Key: c.Me.Key}} {
		a := api.Answer{Kind: api.ADead, Left: c.Me, Right: had}
		for _, b := range answers() {
			s := played(t, c, append(rows, row{right, a}, row{asks(c, c.Me, api.QOut), b})...)
			want := over(api.ErrAgain)
			if b.Kind == api.ADead {
				want = over(api.ErrDead)
			}
			wants(t, s, want)
		}
	}
	for _, a := range answers(api.AOK, api.ADead) {
		wants(t, played(t, c, append(rows, row{right, a})...), asks(c, c.Me, api.QOut))
		// Me to the right counts only of a dead one.
		a.Right = c.Me
		wants(t, played(t, c, append(rows, row{right, a})...), asks(c, c.Me, api.QOut))
	}
}

// P13.1, Left: whatever is answered, on to Mine; and p is freed then, whoever else is dead.
func TestLeft(t *testing.T) {
	c := from2()
	r := ref(8, "")
	for _, a := range append(answers(), api.Answer{Kind: api.ADead, Left: c.Me, Right: c.Me}) {
		rows := append(in(c, c.From, r, 3), row{asks(c, r, api.QLeft, c.Me), a}, row{asks(c, c.Me, api.QFree), yes}, row{asks(c, c.From, api.QFree), yes})
		wants(t, played(t, c, rows...), over(api.OK, c.From, r))
	}
}

// P13.1, Mine: whatever is answered: Free, and over: OK with both sides; of a dead Me: ErrDead alone.
func TestMine(t *testing.T) {
	c := from2()
	r := ref(8, "")
	for _, b := range answers() {
		for _, a := range answers() {
			rows := append(in(c, c.From, r, 4), row{asks(c, c.Me, api.QFree), b}, row{asks(c, c.From, api.QFree), a})
			want := over(api.OK, c.From, r)
			if b.Kind == api.ADead {
				want = over(api.ErrDead)
			}
			wants(t, played(t, c, rows...), want)
		}
	}
}

// P13.1, Out: whatever is answered: Free, and over: ErrAgain; of a dead Me: ErrDead.
func TestOut(t *testing.T) {
	c := from2()
	r := ref(8, "")
	for _, why := range answers(api.AOK, api.ADead) {
		for _, b := range answers() {
			for _, a := range answers() {
				rows := append(in(c, c.From, r, 2), row{asks(c, c.From, api.QRight, c.Me), why}, row{asks(c, c.Me, api.QOut), b}, row{asks(c, c.From, api.QFree), a})
				want := over(api.ErrAgain)
				if b.Kind == api.ADead {
					want = over(api.ErrDead)
				}
				wants(t, played(t, c, rows...), want)
			}
		}
	}
}

// P13.1, Free: that one is dead, told there, is no end and no way back: what was to come comes.
func TestFreeDead(t *testing.T) {
	c := from2()
	three, four, r := ref(3, ""), ref(4, ""), ref(8, "")
	died := api.Answer{Kind: api.ADead, Right: c.Me}
	s := played(t, c,
		row{asks(c, c.From, api.QLock), ok(three)}, row{asks(c, c.From, api.QFree), died},
		row{asks(c, three, api.QLock), ok(four)}, row{asks(c, three, api.QFree), dead},
		row{asks(c, four, api.QLock), ok(r)}, row{asks(c, c.Me, api.QRec, four, r), yes}, row{asks(c, four, api.QRight, c.Me), yes},
		row{asks(c, r, api.QLeft, c.Me), died}, row{asks(c, c.Me, api.QFree), yes})
	// Though others were told to be dead, this one was not: it is asked.
	play(t, s, row{asks(c, four, api.QFree), died})
	wants(t, s, over(api.OK, four, r))
}
