package peer

import (
	"math"
	"slices"
	"testing"

	"leapfrog/api"
	"leapfrog/msg"
)

// The asks of each kind.

func readOf(w api.Vec) api.Ask { return api.Ask{Kind: api.QRead, W: w} }

func get() api.Ask { return api.Ask{Kind: api.QGet} }

func mark() api.Ask { return api.Ask{Kind: api.QMark} }

func joined() api.Ask { return api.Ask{Kind: api.QJoined} }

func read(w string) api.Ask { return readOf(v(w)) }

func lock(w string, o api.Owner) api.Ask { return api.Ask{Kind: api.QLock, W: v(w), Owner: o} }

func free(w string, o api.Owner) api.Ask { return api.Ask{Kind: api.QFree, W: v(w), Owner: o} }

func out(w string, o api.Owner) api.Ask { return api.Ask{Kind: api.QOut, W: v(w), Owner: o} }

func left(w string, r api.Ref) api.Ask { return api.Ask{Kind: api.QLeft, W: v(w), Ref: r} }

func right(w string, r api.Ref, o api.Owner) api.Ask {
	return api.Ask{Kind: api.QRight, W: v(w), Ref: r, Owner: o}
}

func between(w string, r, s api.Ref, o api.Owner) api.Ask {
	return api.Ask{Kind: api.QRec, W: v(w), Ref: r, Ref2: s, Owner: o}
}

// The answers, each to a ticket.

func ok(ticket int) api.Ready { return api.Ready{Ticket: ticket, Answer: api.Answer{Kind: api.AOK}} }

func no(ticket int) api.Ready { return api.Ready{Ticket: ticket, Answer: api.Answer{Kind: api.ANo}} }

func gone(ticket int) api.Ready {
	return api.Ready{Ticket: ticket, Answer: api.Answer{Kind: api.AGone}}
}

func value(ticket int, s string) api.Ready {
	return api.Ready{Ticket: ticket, Answer: api.Answer{Kind: api.AOK, Value: []byte(s)}}
}

func beside(ticket int, left, right api.Ref) api.Ready {
	return api.Ready{Ticket: ticket, Answer: api.Answer{Kind: api.AOK, Left: left, Right: right}}
}

func besideMarked(ticket int, left, right api.Ref) api.Ready {
	return api.Ready{Ticket: ticket, Answer: api.Answer{Kind: api.AOK, Marked: true, Left: left, Right: right}}
}

// with is an answer that has a value, too.
func with(r api.Ready, s string) api.Ready {
	r.Answer.Value = []byte(s)
	return r
}

func sameReady(x, y api.Ready) bool {
	return x.Ticket == y.Ticket && msg.SameAnswer(x.Answer, y.Answer)
}

// asks holds what an ask that may be is answered, with those that waited.
func asks(t *testing.T, p *Peer, ticket int, q api.Ask, want ...api.Ready) {
	t.Helper()
	if got, e := p.Ask(ticket, q); !slices.EqualFunc(got, want, sameReady) || e != api.OK {
		t.Errorf("Ask(%d, %+v) = %+v, %d; not %+v", ticket, q, got, e, want)
	}
}

// stays holds that an ask is answered so, and changes nothing.
func stays(t *testing.T, p *Peer, q api.Ask, want api.Ready) {
	t.Helper()
	state, waits := p.State(), p.Open()
	asks(t, p, want.Ticket, q, want)
	stands(t, p, state)
	open(t, p, waits...)
}

// joinIn lets a peer be in a list, between two others.
func joinIn(t *testing.T, p *Peer, w string, left, right api.Ref, o api.Owner) {
	t.Helper()
	asks(t, p, -1, between(w, left, right, o), ok(-1))
}

// rightAsks are some that may be, of each kind.
func rightAsks() []api.Ask {
	return []api.Ask{
		read("."), read("10"), readOf(api.Vec{Len: 32, Bits: 1<<32 - 1}), get(), mark(), joined(),
		lock(".", a), lock("1", own(-5, 0)), free("10", b), free("01", api.Owner{}), out("1", a), out(".", own(math.MinInt, math.MaxInt)),
		right(".", at(9), a), right("1", head(2), api.Owner{}), left("10", at(3)), left(".", tail(32)),
		between(".", at(3), at(9), a), between("10", head(0), tail(0), own(-1, -1)),
	}
}

// wrongAsks are such as may not be: of kinds that are none, with parts that are none of theirs, with parts that may not be.
func wrongAsks() []api.Ask {
	l := []api.Ask{{}, {Kind: -1}, {Kind: 11}, {Kind: math.MinInt}, {Kind: math.MaxInt}, {Kind: 0, W: v("1")}}
	keys := []api.Key{{}, {Rank: 4}, {Rank: api.RLow, N: 1}, {Rank: api.RHigh, N: 9}}
	for _, q := range rightAsks() {
		turned := func(turn func(q *api.Ask)) {
			x := q
			if turn(&x); x != q {
				l = append(l, x)
			}
		}
		hasRef2, hasRef := q.Kind == api.QRec, q.Kind == api.QRec || q.Kind == api.QRight || q.Kind == api.QLeft
		for _, w := range wrongVecs() {
			turned(func(q *api.Ask) { q.W = w })
			turned(func(q *api.Ask) { q.Ref.Vec = w })
			turned(func(q *api.Ask) { q.Ref2.Vec = w })
		}
		for _, k := range keys {
			if hasRef {
				turned(func(q *api.Ask) { q.Ref.Key = k })
			}
			if hasRef2 {
				turned(func(q *api.Ask) { q.Ref2.Key = k })
			}
		}
		if !hasRef {
			turned(func(q *api.Ask) { q.Ref = at(3) })
			turned(func(q *api.Ask) { q.Ref.ID = 1 })
		}
		if !hasRef2 {
			turned(func(q *api.Ask) { q.Ref2 = at(9) })
		}
		switch q.Kind {
		case api.QGet, api.QMark, api.QJoined:
			turned(func(q *api.Ask) { q.W = v("0") })
			fallthrough
		case api.QRead, api.QLeft:
			turned(func(q *api.Ask) { q.Owner = a })
		}
	}
	return l
}

// P9.2: asks that may be are answered, or wait; such as may not be are told so, and change nothing.
func TestAskMayBe(t *testing.T) {
	busy := one(t, me(5, "10"), "v")
	joinIn(t, busy, "1", at(3), at(9), a)
	asks(t, busy, 2, lock("1", b))
	asks(t, busy, 3, mark())
	for _, p := range []*Peer{one(t, me(5, "10"), ""), busy, end(t, false, 2), end(t, true, 0)} {
		state, waits := p.State(), p.Open()
		for _, q := range wrongAsks() {
			if l, e := p.Ask(1, q); len(l) != 0 || e != 91 {
				t.Errorf("Ask(%+v) = %v, %d", q, l, e)
			}
		}
		stands(t, p, state)
		open(t, p, waits...)
		for _, q := range rightAsks() {
			before := len(p.Open())
			l, e := p.Ask(1, q)
			if e != api.OK || len(l) == 0 && len(p.Open()) != before+1 {
				t.Errorf("Ask(%+v) = %v, %d", q, l, e)
			}
		}
	}
}

// P9.2: in lists that it is in, in those that it is not, of one that is marked, of one that is not.
func TestReadGet(t *testing.T) {
	p := one(t, me(5, "10"), "val")
	everywhere := func(in map[api.Vec]api.Ready) {
		t.Helper()
		for _, w := range append(vectors(3), api.Vec{Len: 32}) {
			want, is := in[w]
			if !is {
				want = gone(8)
			}
			stays(t, p, readOf(w), want)
		}
		want, is := in[api.Vec{}]
		if !is {
			stays(t, p, get(), gone(8))
			return
		}
		stays(t, p, get(), with(want, "val"))
	}
	everywhere(nil)
	joinIn(t, p, "1", at(3), at(9), a)
	everywhere(map[api.Vec]api.Ready{v("1"): beside(8, at(3), at(9))})
	joinIn(t, p, ".", head(2), tail(2), b)
	asks(t, p, 1, joined(), ok(1))
	everywhere(map[api.Vec]api.Ready{v("1"): beside(8, at(3), at(9)), {}: beside(8, head(2), tail(2))})
	asks(t, p, 2, mark(), value(2, "val"))
	everywhere(map[api.Vec]api.Ready{v("1"): besideMarked(8, at(3), at(9)), {}: besideMarked(8, head(2), tail(2))})
	asks(t, p, 3, out(".", b), ok(3))
	everywhere(map[api.Vec]api.Ready{v("1"): besideMarked(8, at(3), at(9))})
	asks(t, p, 4, free("1", a), ok(4))
	everywhere(map[api.Vec]api.Ready{v("1"): besideMarked(8, at(3), at(9))})
}

// P9.2: of the ends, which are in all lists up to their height, and have no value.
func TestReadGetEnd(t *testing.T) {
	for _, height := range []int{0, 1, 3} {
		h, u := end(t, false, height), end(t, true, height)
		for _, w := range vectors(4) {
			low, high := beside(5, api.Ref{}, tail(height)), beside(5, head(height), api.Ref{})
			if w.Len > height {
				low, high = gone(5), gone(5)
			}
			stays(t, h, readOf(w), low)
			stays(t, u, readOf(w), high)
		}
		stays(t, h, get(), beside(5, api.Ref{}, tail(height)))
		stays(t, u, get(), beside(5, head(height), api.Ref{}))
	}
	far := readOf(api.Vec{Len: 32, Bits: 0x80000001})
	stays(t, end(t, false, 32), far, beside(1, api.Ref{}, tail(32)))
	stays(t, end(t, false, 31), far, gone(1))
}

// P9.2: by one, by who holds it, by others that wait, by one that waits already, of lists that it is not in.
func TestLock(t *testing.T) {
	p := one(t, me(5, "10"), "v")
	for _, w := range []string{".", "1", "0", "11"} {
		stays(t, p, lock(w, a), gone(1))
	}
	joinIn(t, p, "1", at(3), at(9), a)
	asks(t, p, 1, free("1", a), ok(1))
	asks(t, p, 2, lock("1", b), beside(2, at(3), at(9)))
	stays(t, p, lock("1", b), beside(3, at(3), at(9)))
	asks(t, p, 4, lock("1", c))
	asks(t, p, 5, lock("1", a))
	open(t, p, 4, 5)
	for _, o := range []api.Owner{c, a} {
		stays(t, p, lock("1", o), no(6))
	}
	stays(t, p, lock("1", b), beside(7, at(3), at(9)))
	stays(t, p, lock("0", c), gone(8))
	stays(t, p, lock(".", c), gone(8))
	stands(t, p, api.PeerState{Me: me(5, "10"), Value: []byte("v"), Recs: []api.RecState{rec("1", at(3), at(9), b, c, a)}})
	// One that waits in a list may wait in another, too.
	joinIn(t, p, "10", at(2), at(9), d)
	asks(t, p, 9, lock("10", c))
	open(t, p, 4, 5, 9)
	asks(t, p, 10, free("10", d), ok(10), beside(9, at(2), at(9)))
	open(t, p, 4, 5)
}

// P9.2: a lock for which MaxWaits wait; who holds it and who waits is told what it would be told else.
func TestLockMany(t *testing.T) {
	p, h := one(t, me(5, "10"), "v"), end(t, false, 2)
	joinIn(t, p, "1", at(3), at(9), a)
	asks(t, h, 0, lock("1", a), beside(0, api.Ref{}, tail(2)))
	for _, q := range []*Peer{p, h} {
		now := q.State().Recs[0]
		var waits []int
		for i := range 64 {
			asks(t, q, 100+i, lock("1", own(3, 1+i)))
			waits = append(waits, 100+i)
			open(t, q, waits...)
		}
		for _, o := range []api.Owner{own(3, 65), b, c, d} {
			stays(t, q, lock("1", o), no(1))
		}
		stays(t, q, lock("1", own(3, 64)), no(2))
		stays(t, q, lock("1", a), beside(3, now.Left, now.Right))
		asks(t, q, 4, free("1", a), ok(4), beside(100, now.Left, now.Right))
		asks(t, q, 5, lock("1", a))
		stays(t, q, lock("1", b), no(6))
		open(t, q, append(waits[1:], 5)...)
	}
}

// P9.2: owners that may not be hold nothing, in no list.
func TestWrongOwners(t *testing.T) {
	p := one(t, me(5, "10"), "v")
	joinIn(t, p, "1", at(3), at(9), a)
	joinIn(t, p, ".", at(3), at(9), a)
	asks(t, p, 1, free(".", a), ok(1))
	for _, o := range wrongOwners() {
		for _, w := range []string{"1", "."} {
			stays(t, p, lock(w, o), no(2))
			stays(t, p, free(w, o), no(3))
			stays(t, p, right(w, at(8), o), no(4))
			stays(t, p, out(w, o), no(5))
		}
		stays(t, p, lock("10", o), gone(6))
		stays(t, p, lock("0", o), gone(6))
		stays(t, p, between("10", at(3), at(9), o), no(7))
		for _, h := range []*Peer{end(t, false, 2), end(t, true, 2)} {
			stays(t, h, lock("1", o), no(8))
			stays(t, h, lock("111", o), gone(8))
			stays(t, h, free("1", o), no(8))
		}
	}
	joinIn(t, p, "10", at(3), at(9), d)
}

// P9.2: by who holds it, by others, with nobody that waits and with some; the next one is told the record as it is now.
func TestFree(t *testing.T) {
	p := one(t, me(5, "10"), "v")
	stays(t, p, free("1", a), no(1))
	stays(t, p, free("0", a), no(1))
	joinIn(t, p, "1", at(3), at(9), a)
	stays(t, p, free("1", b), no(2))
	asks(t, p, 3, free("1", a), ok(3))
	stays(t, p, free("1", a), no(4))
	asks(t, p, 5, lock("1", a), beside(5, at(3), at(9)))
	asks(t, p, 6, lock("1", b))
	asks(t, p, 7, lock("1", c))
	stays(t, p, free("1", b), no(8))
	stays(t, p, free("1", d), no(8))
	stays(t, p, free(".", a), no(8))
	asks(t, p, 9, right("1", at(8), a), ok(9))
	asks(t, p, 10, left("1", at(4)), ok(10))
	asks(t, p, 11, free("1", a), ok(11), beside(6, at(4), at(8)))
	asks(t, p, 12, joined(), ok(12))
	asks(t, p, 13, mark(), value(13, "v"))
	asks(t, p, 14, right("1", at(7), b), ok(14))
	asks(t, p, 15, free("1", b), ok(15), besideMarked(7, at(4), at(7)))
	open(t, p)
	asks(t, p, 16, free("1", c), ok(16))
	stays(t, p, free("1", c), no(17))
	h := end(t, true, 1)
	stays(t, h, free("1", a), no(1))
	asks(t, h, 2, lock("1", a), beside(2, head(1), api.Ref{}))
	asks(t, h, 3, lock("1", b))
	stays(t, h, free("1", b), no(4))
	stays(t, h, free("0", a), no(4))
	stays(t, h, free("11", a), no(4))
	asks(t, h, 5, free("1", a), ok(5), beside(3, head(1), api.Ref{}))
	asks(t, h, 6, free("1", b), ok(6))
	stands(t, h, api.PeerState{Me: tail(1), Joined: true})
}

// P9.2: keys above, below and its own, by who holds the lock and by others, in lists that it is in and that it is not.
func TestSides(t *testing.T) {
	p := one(t, me(5, "10"), "v")
	stays(t, p, right("1", at(9), a), no(1))
	stays(t, p, left("1", at(3)), gone(1))
	stays(t, p, left("0", at(3)), gone(1))
	stays(t, p, left("1", at(9)), gone(1))
	joinIn(t, p, "1", at(3), at(9), a)
	asks(t, p, 2, lock("1", b))
	for _, r := range []api.Ref{at(6), at(math.MaxUint64), tail(2), tail(0), {ID: -4, Key: at(6).Key}} {
		stays(t, p, right("1", r, b), no(3))
		stays(t, p, right("1", r, c), no(3))
		stays(t, p, left("1", r), no(3))
		stays(t, p, right(".", r, a), no(3))
		asks(t, p, 4, right("1", r, a), ok(4))
		asks(t, p, 5, read("1"), beside(5, at(3), r))
	}
	for _, r := range []api.Ref{at(4), at(0), head(2), head(0), {ID: -4, Key: at(4).Key}} {
		stays(t, p, right("1", r, a), no(3))
		stays(t, p, left(".", r), gone(3))
		asks(t, p, 4, left("1", r), ok(4))
		asks(t, p, 5, read("1"), beside(5, r, api.Ref{ID: -4, Key: at(6).Key}))
	}
	for _, r := range []api.Ref{at(5), me(5, "10"), {Key: at(5).Key}} {
		stays(t, p, right("1", r, a), no(3))
		stays(t, p, left("1", r), no(3))
	}
	asks(t, p, 6, free("1", a), ok(6), beside(2, api.Ref{ID: -4, Key: at(4).Key}, api.Ref{ID: -4, Key: at(6).Key}))
	stays(t, p, right("1", at(7), a), no(7))
	asks(t, p, 8, free("1", b), ok(8))
	stays(t, p, right("1", at(7), b), no(9))
	asks(t, p, 10, left("1", at(1)), ok(10))
}

// P9.2: the sides of the ends: nothing is left of the head, or right of the tail.
func TestSidesEnd(t *testing.T) {
	h, u := end(t, false, 2), end(t, true, 2)
	for _, w := range []string{".", "1", "01"} {
		asks(t, h, 1, lock(w, a), beside(1, api.Ref{}, tail(2)))
		asks(t, u, 1, lock(w, a), beside(1, head(2), api.Ref{}))
		for _, r := range []api.Ref{at(0), at(5), at(math.MaxUint64), head(2), tail(2)} {
			stays(t, h, left(w, r), no(2))
			stays(t, u, right(w, r, a), no(2))
			stays(t, h, right(w, r, b), no(2))
		}
		stays(t, h, right(w, head(2), a), no(3))
		stays(t, u, left(w, tail(2)), no(3))
		for _, r := range []api.Ref{at(0), at(5), at(math.MaxUint64), tail(1)} {
			asks(t, h, 4, right(w, r, a), ok(4))
			asks(t, h, 5, read(w), beside(5, api.Ref{}, r))
		}
		for _, r := range []api.Ref{at(0), at(5), at(math.MaxUint64), head(1)} {
			asks(t, u, 4, left(w, r), ok(4))
			asks(t, u, 5, read(w), beside(5, r, api.Ref{}))
		}
	}
	stays(t, h, left("111", at(3)), gone(6))
	stays(t, u, left("111", at(3)), gone(6))
	stays(t, h, right("111", at(3), a), no(6))
}

// P9.2: into a list of its, at once, and again behind QOut; into one that is none of its, twice, with sides that do not belong there.
func TestRec(t *testing.T) {
	p := one(t, me(5, "10"), "v")
	for _, w := range []string{"0", "11", "100", "101", "01"} {
		stays(t, p, between(w, at(3), at(9), a), no(1))
	}
	wrong := [][2]api.Ref{
		{at(5), at(9)}, {at(6), at(9)}, {tail(2), at(9)}, {at(3), at(5)}, {at(3), at(4)}, {at(3), head(2)},
		{at(9), at(3)}, {tail(2), head(2)}, {at(5), at(5)},
	}
	for _, w := range []string{"10", ".", "1"} {
		for _, x := range wrong {
			stays(t, p, between(w, x[0], x[1], a), no(2))
		}
		asks(t, p, 3, between(w, at(4), at(6), a), ok(3))
		asks(t, p, 4, read(w), beside(4, at(4), at(6)))
		stays(t, p, between(w, at(4), at(6), a), no(5))
		stays(t, p, between(w, head(2), tail(2), b), no(5))
		asks(t, p, 6, out(w, a), ok(6))
		asks(t, p, 7, between(w, head(2), tail(2), b), ok(7))
		stays(t, p, lock(w, b), beside(8, head(2), tail(2)))
		asks(t, p, 9, out(w, b), ok(9))
	}
	stands(t, p, api.PeerState{Me: me(5, "10"), Value: []byte("v")})
	for _, h := range []*Peer{end(t, false, 2), end(t, true, 2)} {
		for _, w := range []string{".", "1", "111"} {
			stays(t, h, between(w, at(3), at(9), a), no(1))
			stays(t, h, between(w, head(2), tail(2), a), no(1))
		}
	}
	// Whether it has joined, and is marked, makes no difference.
	asks(t, p, 10, joined(), ok(10))
	asks(t, p, 11, mark(), value(11, "v"))
	joinIn(t, p, "1", at(3), at(9), a)
}

// P9.2: with nobody and with many that waited, each told at its own ticket, in order; by others; of an end.
func TestOut(t *testing.T) {
	p := one(t, me(5, "10"), "v")
	stays(t, p, out("1", a), no(1))
	stays(t, p, out("0", a), no(1))
	joinIn(t, p, "1", at(3), at(9), a)
	stays(t, p, out("1", b), no(2))
	stays(t, p, out(".", a), no(2))
	asks(t, p, 3, out("1", a), ok(3))
	stays(t, p, out("1", a), no(4))
	for _, many := range []int{1, 2, 64} {
		joinIn(t, p, "1", at(3), at(9), d)
		joinIn(t, p, ".", at(3), at(9), d)
		asks(t, p, 5, lock(".", a))
		want := []api.Ready{ok(6)}
		for i := range many {
			o := own(9-i%10, 70-i)
			asks(t, p, 900-i, lock("1", o))
			want = append(want, gone(900-i))
			stays(t, p, out("1", o), no(7))
		}
		asks(t, p, 6, out("1", d), want...)
		open(t, p, 5)
		asks(t, p, 8, read("1"), gone(8))
		asks(t, p, 9, out(".", d), ok(9), gone(5))
		open(t, p)
	}
	joinIn(t, p, "1", at(3), at(9), a)
	asks(t, p, 10, free("1", a), ok(10))
	stays(t, p, out("1", a), no(11))
	for _, h := range []*Peer{end(t, false, 2), end(t, true, 2)} {
		stays(t, h, out("1", a), no(1))
		h.Ask(2, lock("1", a))
		asks(t, h, 3, lock("1", b))
		stays(t, h, out("1", a), no(4))
		stays(t, h, out("1", b), no(4))
		stays(t, h, out("111", a), no(4))
	}
}

// P9.2: one that waited when a list was left may wait there again, once the peer is in it again.
func TestWaitAgain(t *testing.T) {
	p := one(t, me(5, "10"), "v")
	for i := range 5 {
		joinIn(t, p, "1", at(3), at(9), a)
		asks(t, p, 1+i, lock("1", b))
		stays(t, p, lock("1", b), no(99))
		asks(t, p, 20, out("1", a), ok(20), gone(1+i))
		joinIn(t, p, "1", at(4), at(8), c)
		asks(t, p, 30+i, lock("1", b))
		asks(t, p, 40, free("1", c), ok(40), beside(30+i, at(4), at(8)))
		stays(t, p, lock("1", b), beside(50, at(4), at(8)))
		asks(t, p, 60, free("1", b), ok(60))
		asks(t, p, 70, lock("1", c), beside(70, at(4), at(8)))
		asks(t, p, 80+i, lock("1", b))
		asks(t, p, 90, out("1", c), ok(90), gone(80+i))
	}
	open(t, p)
}

// P9.2: ahead of QJoined it waits, behind it the first one marks it; of an end never.
func TestMark(t *testing.T) {
	p := one(t, me(5, "10"), "val")
	asks(t, p, 1, joined(), ok(1))
	asks(t, p, 2, mark(), value(2, "val"))
	for range 3 {
		stays(t, p, mark(), no(3))
		stays(t, p, joined(), ok(4))
	}
	stands(t, p, api.PeerState{Me: me(5, "10"), Value: []byte("val"), Joined: true, Marked: true})
	for _, high := range []bool{false, true} {
		h := end(t, high, 2)
		for range 3 {
			stays(t, h, mark(), no(1))
			stays(t, h, joined(), no(2))
		}
	}
}

// P9.2, P9.5: with none, one and many marks that waited; joined twice; the first mark alone is AOK.
func TestJoined(t *testing.T) {
	for _, many := range []int{0, 1, 2, 3, 64, 65, 1000} {
		p := one(t, me(5, "10"), "val")
		want := []api.Ready{ok(7)}
		var waits []int
		for i := range many {
			asks(t, p, 3000-i, mark())
			waits = append(waits, 3000-i)
			want = append(want, no(3000-i))
		}
		if many > 0 {
			want[1] = value(3000, "val")
		}
		open(t, p, waits...)
		stands(t, p, api.PeerState{Me: me(5, "10"), Value: []byte("val")})
		asks(t, p, 7, joined(), want...)
		open(t, p)
		stands(t, p, api.PeerState{Me: me(5, "10"), Value: []byte("val"), Joined: true, Marked: many > 0})
		stays(t, p, joined(), ok(8))
		if many > 0 {
			stays(t, p, mark(), no(9))
		} else {
			asks(t, p, 9, mark(), value(9, "val"))
		}
	}
}

// P9.2: a value at its limits comes with a mark and a get, and with nothing else.
func TestValue(t *testing.T) {
	for _, long := range []int{0, 1, 1024} {
		s := string(row(long, 7))
		p := one(t, me(5, "10"), s)
		joinIn(t, p, ".", at(3), at(9), a)
		asks(t, p, 1, mark())
		asks(t, p, 2, get(), with(beside(2, at(3), at(9)), s))
		asks(t, p, 3, read("."), beside(3, at(3), at(9)))
		asks(t, p, 4, lock(".", a), beside(4, at(3), at(9)))
		asks(t, p, 5, joined(), ok(5), value(1, s))
		asks(t, p, 6, get(), with(besideMarked(6, at(3), at(9)), s))
		asks(t, p, 7, out(".", a), ok(7))
		asks(t, p, 8, get(), gone(8))
	}
}

// P9.2: tickets that are alike, among those that wait and with those that are answered at once.
func TestTicketsAlike(t *testing.T) {
	p := one(t, me(5, "10"), "v")
	joinIn(t, p, "1", at(3), at(9), a)
	joinIn(t, p, ".", at(2), at(8), a)
	for _, o := range []api.Owner{b, c, d} {
		asks(t, p, 4, lock("1", o))
	}
	asks(t, p, 4, lock(".", b))
	asks(t, p, 4, mark())
	asks(t, p, 4, mark())
	open(t, p, 4, 4, 4, 4, 4, 4)
	asks(t, p, 4, free("1", a), ok(4), beside(4, at(3), at(9)))
	open(t, p, 4, 4, 4, 4, 4)
	asks(t, p, 4, free(".", a), ok(4), beside(4, at(2), at(8)))
	open(t, p, 4, 4, 4, 4)
	asks(t, p, 4, joined(), ok(4), value(4, "v"), no(4))
	open(t, p, 4, 4)
	asks(t, p, 4, out("1", b), ok(4), gone(4), gone(4))
	open(t, p)
}

// The document's example.
func TestExample(t *testing.T) {
	p := one(t, me(5, "10"), "v")
	asks(t, p, 1, between(".", head(2), tail(2), a), ok(1))
	asks(t, p, 2, lock(".", b))
	asks(t, p, 3, free(".", a), ok(3), beside(2, head(2), tail(2)))
	asks(t, p, 4, mark())
	asks(t, p, 5, joined(), ok(5), value(4, "v"))
}
