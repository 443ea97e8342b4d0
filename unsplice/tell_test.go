package unsplice

import (
	"math"
	"slices"
	"testing"

	"leapfrog/api"
)

// conf are settings, with a peer of the list at each side.
type conf struct {
	api.UnspliceConf
	p, s api.Ref
}

// confs are settings of lists of no bits and of some; between two, and between the ends.
func confs() []conf {
	return []conf{
		{plain("", 0), ref(3, ""), ref(8, "")},
		{plain("", 0), head(0), tail(0)},
		{plain("10", 1), ref(4, "11"), ref(6, "10")},
		{plain("10", 2), head(2), ref(6, "10")},
		{plain("10", 0), ref(4, "01"), tail(2)},
	}
}

// told is a machine that was told AOK at its first n asks, and other answers then.
func (c conf) told(t *testing.T, n int, more ...row) *Unsplice {
	t.Helper()
	return played(t, c.UnspliceConf, append(out(c.UnspliceConf, c.p, c.s, n), more...)...)
}

// The rows of the asks that give back: each with an answer.
func (c conf) freesLeft(a api.Answer) row {
	return row{asks(c.UnspliceConf, c.p, api.QFree), a}
}

func (c conf) freesMe(a api.Answer) row {
	return row{asks(c.UnspliceConf, c.Me, api.QFree), a}
}

// behind8 holds what comes behind 8, whatever is answered there; first leads up to 8.
func (c conf) behind8(t *testing.T, want api.Step, n int, first ...row) {
	t.Helper()
	for _, a := range answers() {
		wants(t, c.told(t, n, append(slices.Clone(first), c.freesLeft(a))...), want)
	}
}

// behind7 holds that 7, then 8, then waiting come, whatever is answered there; first leads up to 7.
func (c conf) behind7(t *testing.T, n int, first ...row) {
	t.Helper()
	for _, a := range answers() {
		wants(t, c.told(t, n, append(slices.Clone(first), c.freesMe(a), c.freesLeft(yes))...), waits())
	}
	for _, a := range []api.Answer{yes, no, dead} {
		c.behind8(t, waits(), n, append(slices.Clone(first), c.freesMe(a))...)
	}
}

// P14.2, 1: who is in the list, and has somebody below it to its left: that one is locked, whatever else is told.
func TestRead(t *testing.T) {
	for _, c := range confs() {
		for _, left := range []api.Ref{
			c.p, head(0), head(2), ref(0, ""), ref(4, "10"), {ID: c.Me.ID, Key: at(4)}, {ID: -7, Key: at(1), Vec: api.Vec{Len: -1}},
			// Below is as key.Compare says, of any two.
			{}, {Key: api.Key{N: top}}, {Key: api.Key{Rank: api.RLow, N: 3}}, {Key: api.Key{Rank: math.MinInt}},
		} {
			for _, a := range []api.Answer{between(left, c.s), between(left, api.Ref{}), {Kind: api.AOK, Left: left, Right: c.Me, Marked: true, Value: []byte("abc")}} {
				wants(t, c.told(t, 0, row{asks(c.UnspliceConf, c.Me, api.QRead), a}), asks(c.UnspliceConf, left, api.QLock))
			}
		}
	}
}

// P14.2, 1: a Left whose Key is not below x's: it waits.
func TestReadNotBelow(t *testing.T) {
	for _, c := range confs() {
		for _, left := range []api.Ref{
			c.Me, {Key: at(5)}, ref(6, ""), ref(8, "10"), {Key: at(top)}, tail(0), tail(2), {ID: 3, Key: at(6)},
			{Key: api.Key{Rank: api.RHigh, N: 3}}, {Key: api.Key{Rank: 4}}, {Key: api.Key{Rank: math.MaxInt, N: top}},
		} {
			wants(t, c.told(t, 0, row{asks(c.UnspliceConf, c.Me, api.QRead), between(left, c.s)}), waits())
		}
	}
}

// P14.2, 1: who is gone: over, OK; who is dead: ErrDead; any other answer: it waits.
func TestReadOther(t *testing.T) {
	for _, c := range confs() {
		for _, a := range answers(api.AOK) {
			want := waits()
			switch a.Kind {
			case api.AGone:
				want = over(api.OK)
			case api.ADead:
				want = over(api.ErrDead)
			}
			wants(t, c.told(t, 0, row{asks(c.UnspliceConf, c.Me, api.QRead), a}), want)
		}
	}
}

// P14.2, 2: to the right of p is x: that is locked, whatever else is told.
func TestLockLeft(t *testing.T) {
	for _, c := range confs() {
		lock := asks(c.UnspliceConf, c.p, api.QLock)
		for _, a := range []api.Answer{between(api.Ref{}, c.Me), between(head(0), c.Me), between(c.Me, c.Me), {Kind: api.AOK, Right: c.Me, Marked: true, Value: []byte("abc")}} {
			wants(t, c.told(t, 1, row{lock, a}), asks(c.UnspliceConf, c.Me, api.QLock))
		}
	}
}

// P14.2, 2: to the right of p is another one: 8, and it waits.
func TestLockLeftNotMe(t *testing.T) {
	for _, c := range confs() {
		for _, right := range []api.Ref{
			{}, c.s, c.p, tail(0), ref(4, ""), ref(6, ""),
			// Alike in some, not in all.
			{ID: c.Me.ID}, {Key: c.Me.Key}, {ID: c.Me.ID + 1, Key: c.Me.Key, Vec: c.Me.Vec}, {ID: c.Me.ID, Key: at(6), Vec: c.Me.Vec}, {ID: c.Me.ID, Key: c.Me.Key, Vec: v("1111")},
		} {
			c.behind8(t, waits(), 1, row{asks(c.UnspliceConf, c.p, api.QLock), between(c.Me, right)})
		}
	}
}

// P14.2, 2: any other answer: it waits; nothing was locked, and nothing is freed. Me to the right counts only with AOK.
func TestLockLeftOther(t *testing.T) {
	for _, c := range confs() {
		for _, a := range answers(api.AOK) {
			wants(t, c.told(t, 1, row{asks(c.UnspliceConf, c.p, api.QLock), a}), waits())
			a.Left, a.Right = c.p, c.Me
			wants(t, c.told(t, 1, row{asks(c.UnspliceConf, c.p, api.QLock), a}), waits())
		}
	}
}

// P14.2, 3: to the right of x is one above it: that is to be right of p, whoever was told at first.
func TestLockMe(t *testing.T) {
	for _, c := range confs() {
		for _, right := range []api.Ref{
			c.s, ref(6, ""), ref(99, "10"), {Key: at(top)}, tail(0), tail(2), {ID: c.Me.ID, Key: at(6)},
			{Key: api.Key{Rank: api.RHigh, N: 3}}, {Key: api.Key{Rank: 4}}, {Key: api.Key{Rank: math.MaxInt, N: top}, Vec: api.Vec{Len: -1}},
		} {
			for _, a := range []api.Answer{between(c.p, right), between(api.Ref{}, right), {Kind: api.AOK, Left: c.s, Right: right, Marked: true, Value: []byte("abc")}} {
				wants(t, c.told(t, 2, row{asks(c.UnspliceConf, c.Me, api.QLock), a}), asks(c.UnspliceConf, c.p, api.QRight, right))
			}
		}
	}
}

// P14.2, 3: to the right of x is one that is not above it: 7, 8, and it waits.
func TestLockMeNotAbove(t *testing.T) {
	for _, c := range confs() {
		for _, right := range []api.Ref{
			{}, c.Me, c.p, {ID: 99, Key: at(5)}, ref(4, "10"), ref(0, ""), head(0), head(2),
			{Key: api.Key{N: top}}, {Key: api.Key{Rank: -1, N: 9}}, {Key: api.Key{Rank: math.MinInt}}, {Key: api.Key{Rank: api.RLow, N: top}},
		} {
			c.behind7(t, 2, row{asks(c.UnspliceConf, c.Me, api.QLock), between(c.p, right)})
		}
	}
}

// P14.2, 3: x is gone: 8, and over, OK; dead: 8, and over, ErrDead; any other: 8, and it waits. x is not freed.
func TestLockMeOther(t *testing.T) {
	for _, c := range confs() {
		for _, a := range answers(api.AOK) {
			want := waits()
			switch a.Kind {
			case api.AGone:
				want = over(api.OK)
			case api.ADead:
				want = over(api.ErrDead)
			}
			c.behind8(t, want, 2, row{asks(c.UnspliceConf, c.Me, api.QLock), a})
			a.Left, a.Right = c.p, c.s
			c.behind8(t, want, 2, row{asks(c.UnspliceConf, c.Me, api.QLock), a})
		}
	}
}

// P14.2, 4: AOK, whatever else is told; and one that is dead, with s to its right: on to 5.
func TestRight(t *testing.T) {
	for _, c := range confs() {
		right, left := asks(c.UnspliceConf, c.p, api.QRight, c.s), asks(c.UnspliceConf, c.s, api.QLeft, c.p)
		for _, a := range []api.Answer{
			yes, filled(api.AOK), between(c.p, c.Me), between(c.p, c.s),
			{Kind: api.ADead, Right: c.s}, {Kind: api.ADead, Right: c.s, Left: c.Me, Marked: true, Value: []byte("abc")},
		} {
			wants(t, c.told(t, 3, row{right, a}), left)
		}
	}
}

// P14.2, 4: one that is dead, with another one to its right; and any other answer: 7, 8, and it waits.
func TestRightOther(t *testing.T) {
	for _, c := range confs() {
		right := asks(c.UnspliceConf, c.p, api.QRight, c.s)
		for _, had := range []api.Ref{
			{}, c.Me, c.p, ref(90, ""), head(0),
			// Alike in some, not in all.
			{ID: c.s.ID}, {ID: c.s.ID, Key: c.s.Key, Vec: v("1111")}, {ID: c.s.ID + 1, Key: c.s.Key, Vec: c.s.Vec}, {ID: c.s.ID, Key: at(7), Vec: c.s.Vec},
		} {
			c.behind7(t, 3, row{right, api.Answer{Kind: api.ADead, Left: c.s, Right: had}})
		}
		for _, a := range answers(api.AOK, api.ADead) {
			c.behind7(t, 3, row{right, a})
			// s to the right counts only of a dead one.
			a.Right = c.s
			c.behind7(t, 3, row{right, a})
		}
	}
}

// P14.2, 5: whatever is answered: 6.
func TestLeft(t *testing.T) {
	for _, c := range confs() {
		for _, a := range append(answers(), between(c.p, c.Me), api.Answer{Kind: api.ADead, Left: c.Me, Right: c.Me}) {
			wants(t, c.told(t, 4, row{asks(c.UnspliceConf, c.s, api.QLeft, c.p), a}), asks(c.UnspliceConf, c.Me, api.QOut))
		}
	}
}

// P14.2, 6 and 8: x is dead: 8, and over, ErrDead; any other answer: 8, and over, OK.
func TestOut(t *testing.T) {
	for _, c := range confs() {
		for _, a := range answers() {
			want := over(api.OK)
			if a.Kind == api.ADead {
				want = over(api.ErrDead)
			}
			c.behind8(t, want, 5, row{asks(c.UnspliceConf, c.Me, api.QOut), a})
		}
	}
}

// P14.2, 8: of p that was told to be dead at 4, too, its lock is given back, behind 6 and behind 7.
func TestDeadLeftIsFreed(t *testing.T) {
	for _, c := range confs() {
		right := asks(c.UnspliceConf, c.p, api.QRight, c.s)
		did := row{right, api.Answer{Kind: api.ADead, Right: c.s}}
		c.behind8(t, over(api.OK), 3, did, out(c.UnspliceConf, c.p, c.s, 5)[4], row{asks(c.UnspliceConf, c.Me, api.QOut), yes})
		c.behind8(t, over(api.ErrDead), 3, did, row{asks(c.UnspliceConf, c.s, api.QLeft, c.p), dead}, row{asks(c.UnspliceConf, c.Me, api.QOut), dead})
		c.behind8(t, waits(), 3, row{right, dead}, c.freesMe(dead))
	}
}

// P14.2: what was said at a first time through is not said at the next one.
func TestNotSaidAgain(t *testing.T) {
	for _, c := range confs() {
		// It waits behind 8, then is over behind 8, by each way to that.
		first := append(out(c.UnspliceConf, c.p, c.s, 1), row{asks(c.UnspliceConf, c.p, api.QLock), between(c.p, c.s)}, c.freesLeft(dead), row{want: waits()})
		c.ends(t, first, api.OK, out(c.UnspliceConf, c.p, c.s, 6)...)
		c.ends(t, first, api.ErrDead, append(out(c.UnspliceConf, c.p, c.s, 5), row{asks(c.UnspliceConf, c.Me, api.QOut), dead})...)
		c.ends(t, first, api.OK, append(out(c.UnspliceConf, c.p, c.s, 2), row{asks(c.UnspliceConf, c.Me, api.QLock), gone})...)
		c.ends(t, first, api.ErrDead, append(out(c.UnspliceConf, c.p, c.s, 2), row{asks(c.UnspliceConf, c.Me, api.QLock), dead})...)
		wants(t, played(t, c.UnspliceConf, append(first, row{asks(c.UnspliceConf, c.Me, api.QRead), gone})...), over(api.OK))
		wants(t, played(t, c.UnspliceConf, append(first, row{asks(c.UnspliceConf, c.Me, api.QRead), dead})...), over(api.ErrDead))
	}
}

// ends holds that rows, then others, then 8 are the whole, with an error.
func (c conf) ends(t *testing.T, first []row, e api.Errno, more ...row) {
	t.Helper()
	wants(t, played(t, c.UnspliceConf, append(append(slices.Clone(first), more...), c.freesLeft(yes))...), over(e))
}
