package peer

import (
	"bytes"
	"math"
	"slices"
	"testing"

	"leapfrog/api"
	"leapfrog/link"
	"leapfrog/msg"
	"leapfrog/vec"
)

func own(agent, op int) api.Owner { return api.Owner{Agent: agent, Op: op} }

// The owners of the smaller tests.
var (
	a = own(0, 1)
	b = own(1, 1)
	c = own(0, 2)
	d = own(1023, 1<<30)
)

// v is the vector of a text.
func v(s string) api.Vec {
	w, _, e := vec.Read(s)
	if e != api.OK {
		panic("no vector: " + s)
	}
	return w
}

// at is a peer of a number, with a vector of its own.
func at(n uint64) api.Ref {
	return api.Ref{ID: 2 + int(n%1000), Key: api.Key{Rank: api.RAt, N: n}, Vec: api.Vec{Len: 3, Bits: n % 8}}
}

// me is a peer of that number and vector.
func me(n uint64, s string) api.Ref {
	return api.Ref{ID: 7, Key: api.Key{Rank: api.RAt, N: n}, Vec: v(s)}
}

// head and tail are the ends of a height.
func head(height int) api.Ref {
	return api.Ref{ID: 0, Key: api.Key{Rank: api.RLow}, Vec: api.Vec{Len: height}}
}

func tail(height int) api.Ref {
	return api.Ref{ID: 1, Key: api.Key{Rank: api.RHigh}, Vec: api.Vec{Len: height}}
}

func wrongOwners() []api.Owner {
	return []api.Owner{{}, own(-1, 1), own(1024, 1), own(0, 0), own(0, -1), own(1023, 1<<30+1), own(math.MinInt, math.MaxInt), own(1<<32, 1), own(0, 1<<32+1)}
}

func wrongVecs() []api.Vec {
	return []api.Vec{{Len: -1}, {Len: 33}, {Len: 0, Bits: 1}, {Len: 1, Bits: 2}, {Len: 2, Bits: 4}, {Len: 32, Bits: 1 << 32}, {Len: 64}, {Len: math.MinInt}, {Len: math.MaxInt, Bits: math.MaxUint64}}
}

// vectors are all that have at most so many bits, the short ones first.
func vectors(most int) []api.Vec {
	var l []api.Vec
	for n := range most + 1 {
		for bits := range uint64(1) << n {
			l = append(l, api.Vec{Len: n, Bits: bits})
		}
	}
	return l
}

// one is a new peer.
func one(t *testing.T, r api.Ref, value string) *Peer {
	t.Helper()
	p, e := New(r, []byte(value))
	if p == nil || e != api.OK {
		t.Fatalf("New(%v, %q) = %v, %d", r, value, p, e)
	}
	return p
}

// end is a new end.
func end(t *testing.T, high bool, height int) *Peer {
	t.Helper()
	p, e := End(high, height)
	if p == nil || e != api.OK {
		t.Fatalf("End(%v, %d) = %v, %d", high, height, p, e)
	}
	return p
}

// rec is the record of a list, whose first owner holds it while the others wait.
func rec(w string, left, right api.Ref, row ...api.Owner) api.RecState {
	s := api.RecState{W: v(w), Left: left, Right: right}
	if len(row) > 0 {
		s.Held, s.Owner, s.Waits = true, row[0], slices.Clone(row[1:])
	}
	return s
}

// sameState tells whether a peer stands as it is told to.
func sameState(x, y api.PeerState) bool {
	return x.Me == y.Me && bytes.Equal(x.Value, y.Value) && x.Joined == y.Joined && x.Marked == y.Marked &&
		slices.EqualFunc(x.Recs, y.Recs, link.Same)
}

// stands holds how a peer stands.
func stands(t *testing.T, p *Peer, want api.PeerState) {
	t.Helper()
	if got := p.State(); !sameState(got, want) {
		t.Errorf("State = %+v; not %+v", got, want)
	}
}

// open holds which tickets wait.
func open(t *testing.T, p *Peer, want ...int) {
	t.Helper()
	if got := p.Open(); !slices.Equal(got, want) {
		t.Errorf("Open = %v; not %v", got, want)
	}
}

// wills holds what a peer's will says of a list.
func wills(t *testing.T, p *Peer, w api.Vec, marked bool, left, right api.Ref) {
	t.Helper()
	want := api.Answer{Kind: api.ADead, Marked: marked, Left: left, Right: right}
	if got, e := p.Will(w); !msg.SameAnswer(got, want) || e != api.OK {
		t.Errorf("Will(%v) = %+v, %d; not %+v", w, got, e, want)
	}
}

// P9.1: the ends of each height, and of heights that are none.
func TestHeadTailEnd(t *testing.T) {
	for height := range 33 {
		for high, of := range map[bool]func(int) (api.Ref, api.Errno){false: Head, true: Tail} {
			want := head(height)
			if high {
				want = tail(height)
			}
			if r, e := of(height); r != want || e != api.OK {
				t.Errorf("of height %d: %v, %d; not %v", height, r, e, want)
			}
			stands(t, end(t, high, height), api.PeerState{Me: want, Joined: true})
		}
	}
	for _, height := range []int{-1, 33, -2, 34, 64, 1024, 1 << 32, 1<<32 + 3, math.MinInt, math.MaxInt} {
		if r, e := Head(height); r != (api.Ref{}) || e != 90 {
			t.Errorf("Head(%d) = %v, %d", height, r, e)
		}
		if r, e := Tail(height); r != (api.Ref{}) || e != 90 {
			t.Errorf("Tail(%d) = %v, %d", height, r, e)
		}
		for _, high := range []bool{false, true} {
			if p, e := End(high, height); p != nil || e != 90 {
				t.Errorf("End(%v, %d) = %v, %d", high, height, p, e)
			}
		}
	}
}

// P9.1: peers at the limits of IDs, keys, vectors and values, in no list.
func TestNew(t *testing.T) {
	for _, id := range []int{2, 3, 500, 1022, 1023} {
		for _, n := range []uint64{0, 1, 5, math.MaxUint64} {
			for _, w := range []api.Vec{{}, {Len: 1}, {Len: 1, Bits: 1}, {Len: 32}, {Len: 32, Bits: 1<<32 - 1}} {
				for _, long := range []int{0, 1, 1023, 1024} {
					r := api.Ref{ID: id, Key: api.Key{Rank: api.RAt, N: n}, Vec: w}
					value := row(long, n)
					p, e := New(r, value)
					if e != api.OK {
						t.Fatalf("New(%v, %d bytes) = %d", r, long, e)
					}
					stands(t, p, api.PeerState{Me: r, Value: value})
					open(t, p)
					asks(t, p, 1, readOf(w), gone(1))
					asks(t, p, 1, get(), gone(1))
				}
			}
		}
	}
}

// P9.1: a Key, a Vec, an ID, a value that may not be, alone and together.
func TestNewWrong(t *testing.T) {
	no := func(r api.Ref, long int) {
		t.Helper()
		if p, e := New(r, make([]byte, long)); p != nil || e != 90 {
			t.Errorf("New(%v, %d bytes) = %v, %d", r, long, p, e)
		}
	}
	keys := []api.Key{{}, {Rank: api.RLow}, {Rank: api.RHigh}, {Rank: api.RLow, N: 5}, {Rank: api.RHigh, N: 5}, {Rank: 0, N: 5}, {Rank: 4, N: 5}, {Rank: -2, N: 5}, {Rank: math.MinInt}, {Rank: math.MaxInt}}
	ids := []int{1, 0, -1, -2, 1024, 1025, 1 << 32, 1<<32 + 5, math.MinInt, math.MaxInt}
	right := me(5, "10")
	for _, k := range keys {
		r := right
		r.Key = k
		no(r, 0)
		r.ID = 1024
		no(r, 1025)
	}
	for _, w := range wrongVecs() {
		r := right
		r.Vec = w
		no(r, 1024)
		r.ID = 1
		no(r, 0)
	}
	for _, id := range ids {
		r := right
		r.ID = id
		no(r, 0)
		no(r, 1025)
	}
	for _, long := range []int{1025, 1026, 2048, 1 << 16} {
		no(right, long)
	}
	no(head(2), 0)
	no(tail(2), 0)
	no(api.Ref{}, 0)
}

// P9.3: in all lists, of a peer that is in some of them.
func TestWill(t *testing.T) {
	p := one(t, me(5, "10"), "v")
	for _, w := range vectors(4) {
		wills(t, p, w, false, api.Ref{}, api.Ref{})
	}
	joinIn(t, p, "1", at(3), at(9), a)
	joinIn(t, p, ".", at(4), tail(2), b)
	for _, marked := range []bool{false, true} {
		for _, w := range vectors(4) {
			switch w {
			case v("1"):
				wills(t, p, w, marked, at(3), at(9))
			case v("."):
				wills(t, p, w, marked, at(4), tail(2))
			default:
				wills(t, p, w, marked, api.Ref{}, api.Ref{})
			}
		}
		asks(t, p, 1, joined(), ok(1))
		if !marked {
			asks(t, p, 2, mark(), value(2, "v"))
		}
	}
	asks(t, p, 3, out("1", a), ok(3))
	wills(t, p, v("1"), true, api.Ref{}, api.Ref{})
}

// P9.3: of the ends, at first and behind asks; beyond their height they are in no list.
func TestWillEnd(t *testing.T) {
	for _, height := range []int{0, 1, 2, 3} {
		h, u := end(t, false, height), end(t, true, height)
		for _, w := range vectors(4) {
			if w.Len <= height {
				wills(t, h, w, false, api.Ref{}, tail(height))
				wills(t, u, w, false, head(height), api.Ref{})
			} else {
				wills(t, h, w, false, api.Ref{}, api.Ref{})
				wills(t, u, w, false, api.Ref{}, api.Ref{})
			}
		}
	}
	h, u := end(t, false, 2), end(t, true, 2)
	asks(t, h, 1, lock("1", a), beside(1, api.Ref{}, tail(2)))
	asks(t, h, 2, right("1", at(9), a), ok(2))
	asks(t, u, 3, left("1", at(9)), ok(3))
	wills(t, h, v("1"), false, api.Ref{}, at(9))
	wills(t, h, v("0"), false, api.Ref{}, tail(2))
	wills(t, u, v("1"), false, at(9), api.Ref{})
	wills(t, u, v("11"), false, head(2), api.Ref{})
	far := api.Vec{Len: 32, Bits: 0xdeadbeef}
	wills(t, end(t, false, 32), far, false, api.Ref{}, tail(32))
	wills(t, end(t, true, 31), far, false, api.Ref{}, api.Ref{})
}

// P9.3: a vector that may not be, of any peer.
func TestWillWrong(t *testing.T) {
	p := one(t, me(5, "10"), "v")
	joinIn(t, p, ".", at(3), at(9), a)
	for _, q := range []*Peer{p, end(t, false, 2), end(t, true, 32)} {
		for _, w := range wrongVecs() {
			if got, e := q.Will(w); !msg.SameAnswer(got, api.Answer{}) || e != 90 {
				t.Errorf("Will(%v) = %+v, %d", w, got, e)
			}
		}
	}
}

// P9.3: of a peer, behind asks: its records in their lists' order, whatever order they were made in.
func TestState(t *testing.T) {
	p := one(t, me(5, "101"), "some")
	stands(t, p, api.PeerState{Me: me(5, "101"), Value: []byte("some")})
	joinIn(t, p, "101", at(2), at(9), a)
	joinIn(t, p, ".", at(4), at(6), b)
	joinIn(t, p, "10", head(3), tail(3), c)
	joinIn(t, p, "1", at(3), at(8), d)
	asks(t, p, 1, lock("1", a))
	asks(t, p, 2, lock("1", c))
	asks(t, p, 3, free("10", c), ok(3))
	recs := []api.RecState{rec(".", at(4), at(6), b), rec("1", at(3), at(8), d, a, c), rec("10", head(3), tail(3)), rec("101", at(2), at(9), a)}
	stands(t, p, api.PeerState{Me: me(5, "101"), Value: []byte("some"), Recs: recs})
	asks(t, p, 4, joined(), ok(4))
	stands(t, p, api.PeerState{Me: me(5, "101"), Value: []byte("some"), Joined: true, Recs: recs})
	asks(t, p, 5, mark(), value(5, "some"))
	asks(t, p, 6, out("1", d), ok(6), gone(1), gone(2))
	recs = slices.Delete(recs, 1, 2)
	stands(t, p, api.PeerState{Me: me(5, "101"), Value: []byte("some"), Joined: true, Marked: true, Recs: recs})
}

// P9.3: of an end those records that differ from the first ones; changed back, they are not told.
func TestStateEnd(t *testing.T) {
	h, u := end(t, false, 2), end(t, true, 2)
	says := func(p *Peer, recs ...api.RecState) {
		t.Helper()
		was := head(2)
		if p == u {
			was = tail(2)
		}
		stands(t, p, api.PeerState{Me: was, Joined: true, Recs: recs})
	}
	asks(t, h, 1, lock("11", a), beside(1, api.Ref{}, tail(2)))
	asks(t, h, 2, lock(".", b), beside(2, api.Ref{}, tail(2)))
	says(h, rec(".", api.Ref{}, tail(2), b), rec("11", api.Ref{}, tail(2), a))
	asks(t, h, 3, right("11", at(5), a), ok(3))
	asks(t, h, 4, free(".", b), ok(4))
	asks(t, h, 5, free("11", a), ok(5))
	says(h, rec("11", api.Ref{}, at(5)))
	asks(t, h, 6, lock("11", a), beside(6, api.Ref{}, at(5)))
	asks(t, h, 7, right("11", tail(2), a), ok(7))
	asks(t, h, 8, free("11", a), ok(8))
	says(h)
	asks(t, u, 9, left("0", at(8)), ok(9))
	asks(t, u, 10, left(".", at(9)), ok(10))
	asks(t, u, 11, read("1"), beside(11, head(2), api.Ref{}))
	says(u, rec(".", at(9), api.Ref{}), rec("0", at(8), api.Ref{}))
	asks(t, u, 12, left(".", head(2)), ok(12))
	says(u, rec("0", at(8), api.Ref{}))
}

// P9.3: those that wait for locks of several lists and for the mark, in the order in which they came.
func TestOpen(t *testing.T) {
	p := one(t, me(5, "10"), "v")
	open(t, p)
	joinIn(t, p, "10", at(3), at(9), a)
	joinIn(t, p, ".", at(3), at(9), a)
	asks(t, p, 50, mark())
	asks(t, p, 40, lock("10", b))
	asks(t, p, -3, mark())
	asks(t, p, 30, lock(".", b))
	asks(t, p, 40, lock(".", c))
	asks(t, p, math.MinInt, lock("10", c))
	asks(t, p, math.MaxInt, mark())
	open(t, p, 50, 40, -3, 30, 40, math.MinInt, math.MaxInt)
	asks(t, p, 40, free("10", a), ok(40), beside(40, at(3), at(9)))
	open(t, p, 50, -3, 30, 40, math.MinInt, math.MaxInt)
	asks(t, p, 30, out(".", a), ok(30), gone(30), gone(40))
	open(t, p, 50, -3, math.MinInt, math.MaxInt)
	asks(t, p, 0, joined(), ok(0), value(50, "v"), no(-3), no(math.MaxInt))
	open(t, p, math.MinInt)
	h := end(t, false, 1)
	asks(t, h, 1, lock("1", a), beside(1, api.Ref{}, tail(1)))
	asks(t, h, 7, lock("1", b))
	asks(t, h, 6, lock("0", b), beside(6, api.Ref{}, tail(1)))
	asks(t, h, 5, lock("0", a))
	open(t, h, 7, 5)
	asks(t, h, 8, free("1", a), ok(8), beside(7, api.Ref{}, tail(1)))
	open(t, h, 5)
}

// A Peer that is nil, or that neither New nor End made.
func TestNotMade(t *testing.T) {
	for _, p := range []*Peer{nil, {}, new(Peer), {Ref: me(5, "10"), value: []byte("v"), joined: true}} {
		for _, q := range append(rightAsks(), wrongAsks()...) {
			if l, e := p.Ask(3, q); len(l) != 0 || e != 4 {
				t.Errorf("Ask(%+v) = %v, %d", q, l, e)
			}
		}
		for _, w := range append(vectors(2), wrongVecs()...) {
			if got, e := p.Will(w); !msg.SameAnswer(got, api.Answer{}) || e != 4 {
				t.Errorf("Will(%v) = %+v, %d", w, got, e)
			}
		}
		stands(t, p, api.PeerState{})
		open(t, p)
	}
}

// What is handed to New stays as it was, and a peer does not change with it.
func TestNewOwn(t *testing.T) {
	long := []byte("value and more")
	p, e := New(me(5, "10"), long[:5])
	if e != api.OK || string(long) != "value and more" {
		t.Fatalf("New: %d; what was handed in is %q", e, long)
	}
	clear(long)
	if got := p.State(); string(got.Value) != "value" {
		t.Errorf("State = %+v", got)
	}
}

// spoil writes over a row that was told, and over what may stand behind it.
func spoil[T any](l []T) {
	clear(l[:cap(l)])
}

// spoilState writes over all that was told of a peer.
func spoilState(s api.PeerState) {
	spoil(s.Value)
	for _, r := range s.Recs {
		spoil(r.Waits)
	}
	spoil(s.Recs)
}

// An answer is new memory: the peer does not change with it, nor it with the peer or another answer.
func TestAnswersOwn(t *testing.T) {
	p := one(t, me(5, "10"), "value")
	joinIn(t, p, ".", at(3), at(9), a)
	asks(t, p, 1, lock(".", b))
	asks(t, p, 2, lock(".", c))
	asks(t, p, 3, mark())
	asks(t, p, 4, mark())
	first, second, want := p.State(), p.State(), p.State()
	spoilState(first)
	if !sameState(second, want) {
		t.Errorf("what was told is %+v now", second)
	}
	stands(t, p, want)
	spoil(p.Open())
	open(t, p, 1, 2, 3, 4)
	told, _ := p.Ask(5, get())
	again, _ := p.Ask(5, get())
	spoil(told[0].Answer.Value)
	spoil(told)
	marks, _ := p.Ask(6, joined())
	if !slices.EqualFunc(marks, []api.Ready{ok(6), value(3, "value"), no(4)}, sameReady) {
		t.Errorf("Ask = %v", marks)
	}
	spoil(marks[1].Answer.Value)
	spoil(marks)
	asks(t, p, 7, free(".", a), ok(7), besideMarked(1, at(3), at(9)))
	if got := again[0].Answer; string(got.Value) != "value" || got.Marked {
		t.Errorf("what was told is %+v now", got)
	}
	if !slices.Equal(second.Recs[0].Waits, []api.Owner{b, c}) || second.Joined {
		t.Errorf("what was told is %+v now", second)
	}
	want.Joined, want.Marked = true, true
	want.Recs = []api.RecState{rec(".", at(3), at(9), b, c)}
	stands(t, p, want)
	late := one(t, me(5, "10"), "value")
	asks(t, late, 1, joined(), ok(1))
	l, _ := late.Ask(2, mark())
	spoil(l[0].Answer.Value)
	if got := late.State(); string(got.Value) != "value" {
		t.Errorf("State = %+v", got)
	}
}

// Peers share nothing: what one is asked leaves the others as they were.
func TestApart(t *testing.T) {
	p, q := one(t, me(5, "10"), "v"), one(t, me(5, "10"), "v")
	h, g := end(t, false, 2), end(t, false, 2)
	joinIn(t, p, "1", at(3), at(9), a)
	asks(t, p, 1, lock("1", b))
	asks(t, p, 2, mark())
	asks(t, h, 3, lock("1", a), beside(3, api.Ref{}, tail(2)))
	stands(t, q, api.PeerState{Me: me(5, "10"), Value: []byte("v")})
	stands(t, g, api.PeerState{Me: head(2), Joined: true})
	open(t, q)
	open(t, p, 1, 2)
}
