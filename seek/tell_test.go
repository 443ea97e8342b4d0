package seek

import (
	"math"
	"testing"

	"leapfrog/api"
)

// P12.2: on a peer below the target it goes right: it looks at who is below the target, else it goes down.
func TestRight(t *testing.T) {
	five, six, nine := ref(5, "00"), ref(6, "01"), ref(9, "00")
	for _, x := range []struct {
		right api.Ref
		want  api.Step
	}{
		{six, reads(six, "00")},
		{ref(7, "00"), reads(ref(7, "00"), "00")},
		{ref(8, "00"), reads(five, "0")},
		{nine, reads(five, "0")},
		{ref(top, "00"), reads(five, "0")},
		{tail(2), reads(five, "0")},
		// What else than its key a reference has is not asked for.
		{api.Ref{ID: -7, Key: at(6), Vec: api.Vec{Len: -1, Bits: top}}, api.Step{Kind: api.SAsk, To: api.Ref{ID: -7, Key: at(6), Vec: api.Vec{Len: -1, Bits: top}}, Ask: api.Ask{Kind: api.QRead, W: v("00")}}},
	} {
		s := begin(t, five, at(8))
		tell(t, s, row{five, "00", ok(head(2), x.right)})
		wants(t, s, x.want, 0)
	}
}

// P12.2: in the list of no bits it is over, with the two, and whether the second one is the target.
func TestOver(t *testing.T) {
	five := ref(5, "")
	for _, x := range []struct {
		target api.Key
		right  api.Ref
		found  bool
	}{
		{at(8), ref(8, ""), true},
		{at(8), ref(9, ""), false},
		{at(8), ref(top, ""), false},
		{at(8), tail(0), false},
		{at(top), ref(top, ""), true},
		{at(top), tail(0), false},
		{highest, tail(0), true},
		{at(6), ref(6, "1"), true},
		{at(6), api.Ref{ID: math.MinInt, Key: at(6)}, true},
	} {
		s := begin(t, five, x.target)
		tell(t, s, row{five, "", ok(head(0), x.right)})
		wants(t, s, ends(five, x.right, x.found), 0)
	}
}

// P12.2: a peer that is marked is one as others are; the answer's value is nothing to a search.
func TestMarked(t *testing.T) {
	five, six, nine := ref(5, ""), ref(6, ""), ref(9, "")
	a, b := ok(head(0), six), ok(five, nine)
	a.Marked, b.Marked, a.Value, b.Value = true, true, []byte("a"), []byte("b")
	s := begin(t, five, at(9))
	tell(t, s, row{five, "", a}, row{six, "", b})
	wants(t, s, ends(six, nine, true), 0)
}

// P12.2: on a peer that is not below the target it goes left in its list, till it stands on one below; then right.
func TestLeft(t *testing.T) {
	two, five, eight, nine := ref(2, "11"), ref(5, "11"), ref(8, "11"), ref(9, "11")
	s := begin(t, nine, at(5))
	tell(t, s,
		row{nine, "11", ok(eight, tail(2))},
		row{eight, "11", ok(five, nine)},
		row{five, "11", ok(two, eight)},
		row{two, "11", ok(head(2), five)},
		row{two, "1", ok(head(2), ref(4, "10"))},
		row{ref(4, "10"), "1", ok(two, five)},
		row{ref(4, "10"), "", ok(two, five)})
	wants(t, s, ends(ref(4, "10"), five, true), 0)
}

// P12.2: it goes left to the head, and from the tail; a start that has the target's key is not below it.
func TestLeftEnds(t *testing.T) {
	five := ref(5, "1")
	s := begin(t, tail(1), highest)
	tell(t, s, row{tail(1), "0", ok(head(1), api.Ref{})}, row{head(1), "0", ok(api.Ref{}, tail(1))}, row{head(1), "", ok(api.Ref{}, five)}, row{five, "", ok(head(1), tail(1))})
	wants(t, s, ends(five, tail(1), true), 0)
	s = begin(t, five, at(5))
	tell(t, s, row{five, "1", ok(head(1), tail(1))}, row{head(1), "1", ok(api.Ref{}, five)}, row{head(1), "", ok(api.Ref{}, five)})
	wants(t, s, ends(head(1), five, true), 0)
	s = begin(t, ref(0, ""), at(0))
	tell(t, s, row{ref(0, ""), "", ok(head(0), tail(0))}, row{head(0), "", ok(api.Ref{}, ref(0, ""))})
	wants(t, s, ends(head(0), ref(0, ""), true), 0)
}

// P12.2: a Left whose key may not be, or is not below its own: it begins again.
func TestLeftWrong(t *testing.T) {
	nine := ref(9, "11")
	lefts := []api.Ref{{}, nine, ref(10, "11"), ref(top, "11"), tail(2), {ID: 9, Key: at(9)}}
	for _, k := range wrongKeys() {
		lefts = append(lefts, api.Ref{ID: 3, Key: k, Vec: v("11")})
	}
	for _, left := range lefts {
		s := begin(t, nine, at(5))
		tell(t, s, row{nine, "11", ok(left, tail(2))})
		wants(t, s, reads(head(2), "00"), 1)
	}
}

// P12.2: a Left is nothing to a peer that is below the target.
func TestLeftUnasked(t *testing.T) {
	for _, left := range []api.Ref{{}, head(1), tail(1), ref(7, "0"), {Key: api.Key{Rank: 9}}} {
		s := begin(t, head(1), at(5))
		tell(t, s, row{head(1), "0", ok(left, ref(4, "0"))}, row{ref(4, "0"), "0", ok(left, tail(1))}, row{ref(4, "0"), "", ok(left, tail(1))})
		wants(t, s, ends(ref(4, "0"), tail(1), false), 0)
	}
}

// wrongRights are such as do not lie to the right of a peer of key 5.
func wrongRights() []api.Ref {
	l := []api.Ref{{}, ref(5, "11"), ref(4, "11"), ref(0, "11"), head(2), {ID: 99, Key: at(5)}}
	for _, k := range wrongKeys() {
		l = append(l, api.Ref{ID: 99, Key: k, Vec: v("11")})
	}
	return l
}

// P12.2, P12.3: a Right whose key may not be, or is not above its own: it begins again; of the peer on which it stands, in any list, and of the one that it looked at.
func TestRightWrong(t *testing.T) {
	two, five := ref(2, "11"), ref(5, "11")
	for _, right := range wrongRights() {
		s := begin(t, five, at(9))
		tell(t, s, row{five, "11", ok(head(2), right)})
		wants(t, s, reads(head(2), "00"), 1)

		s = begin(t, five, at(9))
		tell(t, s, row{five, "11", ok(head(2), tail(2))}, row{five, "1", ok(head(2), tail(2))}, row{five, "", ok(head(2), right)})
		wants(t, s, reads(head(2), "00"), 1)

		s = begin(t, two, at(9))
		tell(t, s, row{two, "11", ok(head(2), five)}, row{five, "11", ok(two, right)})
		wants(t, s, reads(head(2), "00"), 1)
	}
}

// P12.2: a Right is nothing to a peer that is not below the target.
func TestRightUnasked(t *testing.T) {
	nine, five := ref(9, "1"), ref(5, "1")
	for _, right := range []api.Ref{{}, head(1), nine, ref(6, "1"), {Key: api.Key{Rank: 9}}} {
		s := begin(t, nine, at(7))
		tell(t, s, row{nine, "1", ok(five, right)})
		wants(t, s, reads(five, "1"), 0)
	}
}

// P12.2: the peer on which it stands is dead: it begins again, at the head, at the top, and goes past that one in that list.
func TestDeadHere(t *testing.T) {
	five, six, nine := ref(5, "00"), ref(6, "00"), ref(9, "00")
	s := begin(t, five, at(8))
	tell(t, s, row{five, "00", dead(head(2), six)})
	wants(t, s, reads(head(2), "00"), 1)
	tell(t, s, row{head(2), "00", ok(api.Ref{}, five)}, row{six, "00", ok(five, nine)}, row{six, "0", ok(five, nine)}, row{six, "", ok(five, nine)})
	wants(t, s, ends(six, nine, false), 1)
}

// P12.2: the will is kept of one that is not below the target too, and in its own list alone.
func TestDeadHereElsewhere(t *testing.T) {
	five, six, nine := ref(5, "11"), ref(6, "11"), ref(9, "11")
	s := begin(t, nine, at(9))
	tell(t, s, row{nine, "11", ok(five, tail(2))}, row{five, "11", dead(head(2), nine)},
		row{head(2), "00", ok(api.Ref{}, five)}, // in another list
		row{five, "00", ok(head(2), tail(2))}, row{five, "0", ok(head(2), tail(2))}, row{five, "", ok(head(2), six)},
		row{six, "", ok(five, nine)})
	wants(t, s, ends(six, nine, true), 1)

	zero := ref(9, "0")
	s = begin(t, zero, at(9))
	tell(t, s, row{zero, "0", dead(head(1), tail(1))}, row{head(1), "0", ok(api.Ref{}, zero)}, row{head(1), "", ok(api.Ref{}, zero)})
	wants(t, s, ends(head(1), zero, true), 1)
}

// P12.2: a dead one is passed over for a will that is at or behind the target.
func TestWillBehind(t *testing.T) {
	five, eight := ref(5, ""), ref(8, "")
	for _, x := range []struct {
		target api.Key
		found  bool
	}{{at(8), true}, {at(7), false}, {at(6), false}} {
		s := begin(t, head(0), x.target)
		tell(t, s, row{head(0), "", ok(api.Ref{}, five)}, row{five, "", dead(head(0), eight)}, row{head(0), "", ok(api.Ref{}, five)})
		wants(t, s, ends(head(0), eight, x.found), 1)
	}
	// A dead one behind the target, of which a will is kept, is passed over too.
	s := begin(t, eight, at(6))
	tell(t, s, row{eight, "", dead(five, tail(0))}, row{head(0), "", ok(api.Ref{}, eight)})
	wants(t, s, ends(head(0), tail(0), false), 1)
}

// P12.2: any other answer of the peer on which it stands, below the target or not, in any list: it begins again.
func TestOtherHere(t *testing.T) {
	five, nine := ref(5, "11"), ref(9, "11")
	for _, a := range others(five, nine) {
		for _, start := range []api.Ref{head(2), five, nine, tail(2)} {
			s := begin(t, start, at(8))
			tell(t, s, row{start, bits(start.Vec), a})
			wants(t, s, reads(head(2), "00"), 1)
		}
		s := begin(t, five, at(8))
		tell(t, s, row{five, "11", ok(head(2), nine)}, row{five, "1", ok(head(2), nine)}, row{five, "", a})
		wants(t, s, reads(head(2), "00"), 1)
		// No will is kept of it.
		tell(t, s, row{head(2), "00", ok(api.Ref{}, tail(2))}, row{head(2), "0", ok(api.Ref{}, tail(2))}, row{head(2), "", ok(api.Ref{}, five)})
		wants(t, s, reads(five, ""), 1)
	}
}

// P12.3: it stands on the one that it looked at, once that answers, and goes on from there.
func TestAhead(t *testing.T) {
	five, six, nine := ref(5, "00"), ref(6, "01"), ref(9, "00")
	s := begin(t, head(2), at(8))
	tell(t, s, row{head(2), "00", ok(api.Ref{}, five)}, row{five, "00", ok(head(2), nine)})
	wants(t, s, reads(five, "0"), 0)
	tell(t, s, row{five, "0", ok(head(2), six)}, row{six, "0", ok(five, ref(7, "0"))}, row{ref(7, "0"), "0", ok(six, nine)}, row{ref(7, "0"), "", ok(six, nine)})
	wants(t, s, ends(ref(7, "0"), nine, false), 0)
}

// P12.3: the one that it looks at is dead: this counts, and it reads again the peer on which it stands, in the same list, not the head.
func TestDeadAhead(t *testing.T) {
	two, five, six, nine := ref(2, "11"), ref(5, "11"), ref(6, "11"), ref(9, "11")
	s := begin(t, two, at(8))
	tell(t, s, row{two, "11", ok(head(2), tail(2))}, row{two, "1", ok(head(2), five)}, row{five, "1", dead(two, six)})
	wants(t, s, reads(two, "1"), 1)
	tell(t, s, row{two, "1", ok(head(2), five)}, row{six, "1", ok(two, nine)}, row{six, "", ok(five, nine)})
	wants(t, s, ends(six, nine, false), 1)
}

// P12.3: in another list the same one is looked at anew.
func TestDeadAheadElsewhere(t *testing.T) {
	two, five, six := ref(2, "1"), ref(5, "1"), ref(6, "0")
	s := begin(t, two, at(8))
	tell(t, s, row{two, "1", ok(head(1), five)}, row{five, "1", dead(two, tail(1))}, row{two, "1", ok(head(1), five)}, row{two, "", ok(head(1), five)})
	wants(t, s, reads(five, ""), 1)
	tell(t, s, row{five, "", dead(two, six)}, row{two, "", ok(head(1), five)}, row{six, "", ok(five, tail(1))})
	wants(t, s, ends(six, tail(1), false), 2)
}

// P12.3: wills make chains, which are gone through to their end; the peer on which it stands may answer otherwise meanwhile.
func TestChain(t *testing.T) {
	one, two, three, four, six := ref(1, ""), ref(2, ""), ref(3, ""), ref(4, ""), ref(6, "")
	s := begin(t, one, at(5))
	tell(t, s,
		row{one, "", ok(head(0), two)}, row{two, "", dead(one, three)},
		row{one, "", ok(head(0), two)}, row{three, "", dead(two, four)},
		row{one, "", ok(head(0), two)}, row{four, "", dead(three, six)},
		row{one, "", ok(head(0), two)})
	wants(t, s, ends(one, six, false), 3)

	s = begin(t, one, at(5))
	tell(t, s,
		row{one, "", ok(head(0), three)}, row{three, "", dead(one, six)},
		row{one, "", ok(head(0), two)}, row{two, "", dead(one, three)},
		row{one, "", ok(head(0), two)}) // 2, then 3, then 6
	wants(t, s, ends(one, six, false), 2)

	s = begin(t, one, at(5))
	tell(t, s,
		row{one, "", ok(head(0), two)}, row{two, "", dead(one, six)},
		row{one, "", ok(head(0), three)}, row{three, "", ok(two, six)})
	wants(t, s, ends(three, six, false), 1)
}

// P12.3: a will is one's by its ID, whatever key it goes by; the last one that is told holds.
func TestWillByID(t *testing.T) {
	one, six := ref(1, ""), ref(6, "")
	two, otherTwo := api.Ref{ID: 7, Key: at(2)}, api.Ref{ID: 7, Key: at(3), Vec: v("1")}
	s := begin(t, one, at(5))
	tell(t, s, row{one, "", ok(head(0), two)}, row{two, "", dead(one, six)}, row{one, "", ok(head(0), otherTwo)})
	wants(t, s, ends(one, six, false), 1)
	s = begin(t, one, at(5))
	tell(t, s, row{one, "", ok(head(0), two)}, row{two, "", dead(one, six)}, row{one, "", ok(head(0), api.Ref{ID: 8, Key: at(2)})})
	wants(t, s, reads(api.Ref{ID: 8, Key: at(2)}, ""), 1)

	// The head tells two wills, and another one goes by its ID.
	s = begin(t, head(0), at(5))
	tell(t, s, row{head(0), "", dead(api.Ref{}, six)}, row{head(0), "", dead(api.Ref{}, tail(0))}, row{head(0), "", ok(api.Ref{}, api.Ref{ID: 0, Key: at(3)})})
	wants(t, s, ends(head(0), tail(0), false), 2)
}

// P12.3: a will that leads back, nowhere, or to a key that may not be: it begins again.
func TestWillWrong(t *testing.T) {
	one, five := ref(1, "11"), ref(5, "11")
	for _, will := range wrongRights() {
		s := begin(t, one, at(9))
		tell(t, s, row{one, "11", ok(head(2), five)}, row{five, "11", dead(one, will)})
		wants(t, s, reads(one, "11"), 1)
		tell(t, s, row{one, "11", ok(head(2), five)})
		wants(t, s, reads(head(2), "00"), 2)
	}
	// Two wills that lead to one another.
	six := ref(6, "11")
	s := begin(t, one, at(9))
	tell(t, s, row{one, "11", ok(head(2), six)}, row{six, "11", dead(one, five)}, row{one, "11", ok(head(2), five)}, row{five, "11", dead(one, six)}, row{one, "11", ok(head(2), five)})
	wants(t, s, reads(head(2), "00"), 3)
	// One's will is itself, under a greater key.
	s = begin(t, one, at(9))
	tell(t, s, row{one, "11", ok(head(2), five)}, row{five, "11", dead(one, api.Ref{ID: five.ID, Key: at(7)})}, row{one, "11", ok(head(2), five)})
	wants(t, s, reads(head(2), "00"), 2)
}

// P12.3: at each step of a chain keys must rise, not only at its end; and what is passed over must be to the right, too.
func TestChainFalls(t *testing.T) {
	one, two, four := ref(1, ""), ref(2, ""), ref(4, "")
	// 4's will is 3, that of 3 is 6: behind 4 the chain falls, and rises then.
	three := ref(3, "")
	s := begin(t, one, at(5))
	tell(t, s, row{one, "", ok(head(0), three)}, row{three, "", dead(one, ref(6, ""))}, row{one, "", ok(head(0), four)}, row{four, "", dead(one, three)}, row{one, "", ok(head(0), four)})
	wants(t, s, reads(head(0), ""), 3)
	// A dead one that is told where it does not lie is not passed over.
	s = begin(t, two, at(5))
	tell(t, s, row{two, "", ok(one, four)}, row{four, "", dead(two, ref(6, ""))}, row{two, "", ok(one, api.Ref{ID: four.ID, Key: at(2)})})
	wants(t, s, reads(head(0), ""), 2)
	// Nor is one whose key may not be.
	s = begin(t, two, at(5))
	tell(t, s, row{two, "", ok(one, four)}, row{four, "", dead(two, ref(6, ""))}, row{two, "", ok(one, api.Ref{ID: four.ID, Key: api.Key{Rank: api.RHigh, N: 1}})})
	wants(t, s, reads(head(0), ""), 2)
}

// P12.3: any other answer of the one that it looks at: it begins again, and no will is kept.
func TestOtherAhead(t *testing.T) {
	five, six, nine := ref(5, "11"), ref(6, "11"), ref(9, "11")
	for _, a := range others(five, nine) {
		s := begin(t, five, at(8))
		tell(t, s, row{five, "11", ok(head(2), tail(2))}, row{five, "1", ok(head(2), six)}, row{six, "1", a})
		wants(t, s, reads(head(2), "00"), 1)
		tell(t, s, row{head(2), "00", ok(api.Ref{}, six)})
		wants(t, s, reads(six, "00"), 1)
	}
}

// P12.2, P12.3: wills are kept over beginnings.
func TestWillStays(t *testing.T) {
	five, six, nine := ref(5, "0"), ref(6, "0"), ref(9, "0")
	s := begin(t, head(1), at(8))
	tell(t, s, row{head(1), "0", ok(api.Ref{}, five)}, row{five, "0", dead(head(1), six)}, row{head(1), "0", ok(api.Ref{}, five)},
		row{six, "0", api.Answer{Kind: api.AGone}}, row{head(1), "0", ok(api.Ref{}, five)}, row{six, "0", ok(head(1), nine)}, row{six, "", ok(five, nine)})
	wants(t, s, ends(six, nine, false), 2)
}

// P12.3: behind the end Tell does nothing, whatever it was.
func TestTellBehind(t *testing.T) {
	five, nine := ref(5, ""), ref(9, "")
	s := begin(t, five, at(8))
	tell(t, s, row{five, "", ok(head(0), nine)})
	b := begin(t, five, at(8))
	spend(t, b, api.MaxTries+1)
	for _, a := range append(others(head(0), five), ok(head(0), five), ok(head(0), ref(6, "")), dead(head(0), tail(0))) {
		s.Tell(a)
		wants(t, s, ends(five, nine, false), 0)
		b.Tell(a)
		wants(t, b, busy(), api.MaxTries)
	}
	// Not even a will is kept.
	s.Dead(dead(five, ref(10, "")))
	tell(t, s, row{five, "", ok(head(0), nine)})
	wants(t, s, ends(five, ref(10, ""), false), 1)
}

// spend lets a search begin again so many times.
func spend(t *testing.T, s *Seek, n int) {
	t.Helper()
	for range n {
		if x := s.Next(); x.Kind != api.SAsk {
			t.Fatalf("wants %v", x)
		}
		s.Tell(api.Answer{Kind: api.AGone})
	}
}

// P12.7: who was found to the right is dead: it goes on behind that one, from the peer on which it stands.
func TestDead(t *testing.T) {
	five, eight, nine := ref(5, "1"), ref(8, "1"), ref(9, "0")
	s := begin(t, five, at(8))
	tell(t, s, row{five, "1", ok(head(1), eight)}, row{five, "", ok(head(1), eight)})
	wants(t, s, ends(five, eight, true), 0)
	s.Dead(dead(five, nine))
	wants(t, s, reads(five, ""), 1)
	tell(t, s, row{five, "", ok(head(1), eight)})
	wants(t, s, ends(five, nine, false), 1)
	s.Dead(dead(eight, tail(1)))
	wants(t, s, reads(five, ""), 2)
	tell(t, s, row{five, "", ok(head(1), eight)})
	wants(t, s, ends(five, tail(1), false), 2)
}

// P12.7: behind Dead it is told as ever: somebody else stands there now, or it itself is dead.
func TestDeadGoesOn(t *testing.T) {
	five, six, eight, nine := ref(5, ""), ref(6, ""), ref(8, ""), ref(9, "")
	found := func() *Seek {
		s := begin(t, five, at(8))
		tell(t, s, row{five, "", ok(head(0), eight)})
		s.Dead(dead(five, nine))
		return s
	}
	s := found()
	tell(t, s, row{five, "", ok(head(0), six)}, row{six, "", ok(five, eight)})
	wants(t, s, ends(six, nine, false), 1)
	s = found()
	tell(t, s, row{five, "", dead(head(0), eight)}, row{head(0), "", ok(api.Ref{}, five)})
	wants(t, s, ends(head(0), nine, false), 2)
	s = found()
	tell(t, s, row{five, "", ok(head(0), ref(10, ""))})
	wants(t, s, ends(five, ref(10, ""), false), 1)
}

// P12.7: what is told for a will is not weighed till it is gone by; of which kind the answer is does not matter.
func TestDeadWills(t *testing.T) {
	five, eight, nine := ref(5, "11"), ref(8, "11"), ref(9, "11")
	found := func() *Seek {
		s := begin(t, five, at(7))
		tell(t, s, row{five, "11", ok(head(2), eight)}, row{five, "1", ok(head(2), eight)}, row{five, "", ok(head(2), eight)})
		return s
	}
	for _, will := range append(wrongRights(), ref(7, "11"), eight) {
		s := found()
		s.Dead(dead(five, will))
		wants(t, s, reads(five, ""), 1)
		tell(t, s, row{five, "", ok(head(2), eight)})
		wants(t, s, reads(head(2), "00"), 2)
	}
	for _, k := range []api.AnswerKind{0, api.AOK, api.AGone, api.ANo, -5} {
		s := found()
		s.Dead(api.Answer{Kind: k, Right: nine})
		tell(t, s, row{five, "", ok(head(2), eight)})
		wants(t, s, ends(five, nine, false), 1)
	}
}

// P12.7: the will is kept in the list of no bits alone.
func TestDeadList(t *testing.T) {
	five, eight, nine := ref(5, "0"), ref(8, "0"), ref(9, "0")
	s := begin(t, five, at(9))
	tell(t, s, row{five, "0", ok(head(1), nine)}, row{five, "", ok(head(1), nine)})
	s.Dead(dead(five, tail(1)))
	tell(t, s, row{five, "", api.Answer{Kind: api.AGone}}, row{head(1), "0", ok(api.Ref{}, eight)}, row{eight, "0", ok(five, nine)}, row{eight, "", ok(five, nine)})
	wants(t, s, ends(eight, tail(1), false), 2)
}

// P12.7: Dead of a search that is not over, or is over with ErrBusy, does nothing.
func TestDeadNothing(t *testing.T) {
	five, six, eight := ref(5, "0"), ref(6, "0"), ref(8, "0")
	a := dead(head(1), eight)
	s := begin(t, five, at(8))
	s.Dead(a)
	wants(t, s, reads(five, "0"), 0)
	tell(t, s, row{five, "0", ok(head(1), six)})
	s.Dead(a)
	wants(t, s, reads(six, "0"), 0)
	tell(t, s, row{six, "0", ok(five, tail(1))})
	s.Dead(a)
	wants(t, s, reads(six, ""), 0)
	tell(t, s, row{six, "", ok(five, eight)})
	wants(t, s, ends(six, eight, true), 0)

	s = begin(t, five, at(8))
	spend(t, s, api.MaxTries+1)
	s.Dead(a)
	wants(t, s, busy(), api.MaxTries)
}

// tired is a search that began again so many times, at the head of height 0.
func tired(t *testing.T, target api.Key, n int) *Seek {
	t.Helper()
	s := begin(t, head(0), target)
	spend(t, s, n)
	wants(t, s, reads(head(0), ""), n)
	return s
}

// P12.1 to P12.3, P12.5, P12.7: it begins again MaxTries times; once more, by each of the means, and it is busy.
func TestBusy(t *testing.T) {
	five, nine := ref(5, ""), ref(9, "")
	look := func(s *Seek) { s.Tell(ok(api.Ref{}, five)) }
	end := func(s *Seek) { s.Tell(ok(api.Ref{}, nine)) }
	means := map[string]func(s *Seek){
		"gone":              func(s *Seek) { s.Tell(api.Answer{Kind: api.AGone}) },
		"dead":              func(s *Seek) { s.Tell(dead(api.Ref{}, five)) },
		"right that falls":  func(s *Seek) { s.Tell(ok(api.Ref{}, head(0))) },
		"right of no key":   func(s *Seek) { s.Tell(ok(api.Ref{}, api.Ref{Key: api.Key{Rank: 7}})) },
		"gone ahead":        func(s *Seek) { look(s); s.Tell(api.Answer{Kind: api.AGone}) },
		"dead ahead":        func(s *Seek) { look(s); s.Tell(dead(head(0), nine)) },
		"ahead, that falls": func(s *Seek) { look(s); s.Tell(ok(head(0), five)) },
		"dead to the right": func(s *Seek) { end(s); s.Dead(dead(head(0), tail(0))) },
	}
	for name, spoil := range means {
		t.Run(name, func(t *testing.T) {
			s := tired(t, at(8), api.MaxTries-1)
			spoil(s)
			wants(t, s, reads(head(0), ""), api.MaxTries)
			s = tired(t, at(8), api.MaxTries)
			spoil(s)
			wants(t, s, busy(), api.MaxTries)
		})
	}
	t.Run("left that rises", func(t *testing.T) {
		s := begin(t, nine, at(8))
		tell(t, s, row{nine, "", ok(nine, tail(0))})
		wants(t, s, reads(head(0), ""), 1)
	})
	t.Run("none of them", func(t *testing.T) {
		s := tired(t, at(8), api.MaxTries)
		tell(t, s, row{head(0), "", ok(api.Ref{}, five)}, row{five, "", ok(head(0), nine)})
		wants(t, s, ends(five, nine, false), api.MaxTries)
	})
}
