package splice

import (
	"reflect"
	"slices"
	"testing"

	"leapfrog/api"
	"leapfrog/graph"
	"leapfrog/peer"
)

// town is peers that answer as chapter 9 says, by their IDs.
type town struct {
	height int
	peers  map[int]*peer.Peer
}

// found makes a town of the two ends.
func found(t *testing.T, height int) town {
	t.Helper()
	w := town{height: height, peers: map[int]*peer.Peer{}}
	for id, high := range []bool{false, true} {
		p, e := peer.End(high, height)
		if e != api.OK {
			t.Fatalf("End: %d", e)
		}
		w.peers[id] = p
	}
	return w
}

// come lets one be there, in no list.
func (w town) come(t *testing.T, me api.Ref) {
	t.Helper()
	p, e := peer.New(me, []byte("abc"))
	if e != api.OK {
		t.Fatalf("New(%v): %d", me, e)
	}
	w.peers[me.ID] = p
}

// ask is one's answer, which it must give at once.
func (w town) ask(t *testing.T, to api.Ref, a api.Ask) api.Answer {
	t.Helper()
	l, e := w.peers[to.ID].Ask(1, a)
	if e != api.OK || len(l) != 1 {
		t.Fatalf("%v asked %v: %v, %d", to, a, l, e)
	}
	return l[0].Answer
}

// must asks one for what it must answer AOK to.
func (w town) must(t *testing.T, to api.Ref, a api.Ask) api.Answer {
	t.Helper()
	x := w.ask(t, to, a)
	if x.Kind != api.AOK {
		t.Fatalf("%v asked %v: %v", to, a, x)
	}
	return x
}

// run plays a splice till it is over, or has waited so many times: its last step, and all that it wanted.
func (w town) run(t *testing.T, s *Splice, ticks int) (api.Step, []api.Step) {
	t.Helper()
	var way []api.Step
	for range 100000 {
		x := s.Next()
		way = append(way, x)
		switch x.Kind {
		case api.SAsk:
			s.Tell(w.ask(t, x.To, x.Ask))
			continue
		case api.SWait:
			if ticks > 0 {
				ticks--
				s.Wake()
				continue
			}
		}
		return x, way
	}
	t.Fatal("it does not end")
	return api.Step{}, nil
}

// records are those of all peers, by their IDs; of none there is no row.
func (w town) records() map[int][]api.RecState {
	all := map[int][]api.RecState{}
	for id, p := range w.peers {
		if l := p.State().Recs; len(l) > 0 {
			all[id] = l
		}
	}
	return all
}

// stands holds all records against those of the graph of some.
func (w town) stands(t *testing.T, l ...api.Ref) {
	t.Helper()
	states, e := graph.Records(w.height, l...)
	if e != api.OK {
		t.Fatalf("Records(%v): %d", l, e)
	}
	want := map[int][]api.RecState{}
	for _, x := range states {
		if len(x.Recs) > 0 {
			want[x.Me.ID] = x.Recs
		}
	}
	if got := w.records(); !reflect.DeepEqual(got, want) {
		t.Fatalf("of %v: %v; not %v", l, got, want)
	}
}

// settings are those of one into the list of its first bits, from somebody.
func settings(me, from api.Ref, level int) api.SpliceConf {
	bits := me.Vec.Bits >> (me.Vec.Len - level)
	return api.SpliceConf{W: api.Vec{Len: level, Bits: bits}, Me: me, From: from, Owner: own}
}

// enter puts one into all its lists, each time from the head.
func (w town) enter(t *testing.T, me api.Ref) {
	t.Helper()
	w.come(t, me)
	for level := range w.height + 1 {
		if x, way := w.run(t, begin(t, settings(me, head(w.height), level)), 0); x.Kind != api.SDone || x.Result.E != api.OK {
			t.Fatalf("%v, level %d: %v by %v", me, level, x, way)
		}
	}
}

// row5 is a town of height 0 with some keys.
func row5(t *testing.T, keys ...uint64) town {
	t.Helper()
	w := found(t, 0)
	for _, k := range keys {
		w.enter(t, ref(k, ""))
	}
	return w
}

// kinds are what was asked, of whom; a wait is 0 of nobody.
func kinds(way []api.Step) [][2]int {
	var l [][2]int
	for _, x := range way {
		if x.Kind != api.SDone {
			l = append(l, [2]int{int(x.Ask.Kind), x.To.ID})
		}
	}
	return l
}

// P13.2: between the ends, between two peers, at both sides; from the head, from beside, and from far to the left.
func TestInRow(t *testing.T) {
	lock, free, right, left, rec := int(api.QLock), int(api.QFree), int(api.QRight), int(api.QLeft), int(api.QRec)
	for _, x := range []struct {
		keys        []uint64
		from        api.Ref
		left, right api.Ref
		way         [][2]int
	}{
		{nil, head(0), head(0), tail(0), [][2]int{{lock, 0}, {rec, 15}, {right, 0}, {left, 1}, {free, 15}, {free, 0}}},
		{[]uint64{3, 8}, ref(3, ""), ref(3, ""), ref(8, ""), [][2]int{{lock, 13}, {rec, 15}, {right, 13}, {left, 18}, {free, 15}, {free, 13}}},
		{[]uint64{8}, head(0), head(0), ref(8, ""), [][2]int{{lock, 0}, {rec, 15}, {right, 0}, {left, 18}, {free, 15}, {free, 0}}},
		{[]uint64{3}, head(0), ref(3, ""), tail(0), [][2]int{{lock, 0}, {free, 0}, {lock, 13}, {rec, 15}, {right, 13}, {left, 1}, {free, 15}, {free, 13}}},
		{[]uint64{1, 2, 3, 4, 6, 7}, head(0), ref(4, ""), ref(6, ""), [][2]int{
			{lock, 0}, {free, 0}, {lock, 11}, {free, 11}, {lock, 12}, {free, 12}, {lock, 13}, {free, 13},
			{lock, 14}, {rec, 15}, {right, 14}, {left, 16}, {free, 15}, {free, 14}}},
		{[]uint64{1, 2, 3, 4, 6, 7}, ref(3, ""), ref(4, ""), ref(6, ""), [][2]int{
			{lock, 13}, {free, 13}, {lock, 14}, {rec, 15}, {right, 14}, {left, 16}, {free, 15}, {free, 14}}},
	} {
		w := row5(t, x.keys...)
		me := ref(5, "")
		w.come(t, me)
		end, way := w.run(t, begin(t, settings(me, x.from, 0)), 0)
		if !same(end, over(api.OK, x.left, x.right)) || !slices.Equal(kinds(way), x.way) {
			t.Fatalf("among %v from %v: %v by %v; not %v", x.keys, x.from, end, kinds(way), x.way)
		}
		all := []api.Ref{me}
		for _, k := range x.keys {
			all = append(all, ref(k, ""))
		}
		w.stands(t, all...)
	}
}

// P13.2: a key that is there: ErrExists, and nothing is changed.
func TestInExists(t *testing.T) {
	for _, from := range []api.Ref{head(0), ref(2, ""), ref(4, "")} {
		w := row5(t, 2, 4, 5, 9)
		before := w.records()
		me := api.Ref{ID: 99, Key: at(5)}
		w.come(t, me)
		end, way := w.run(t, begin(t, settings(me, from, 0)), 0)
		if !same(end, over(api.ErrExists, ref(4, ""), ref(5, ""))) {
			t.Fatalf("from %v: %v by %v", from, end, way)
		}
		if after := w.records(); !reflect.DeepEqual(before, after) {
			t.Fatalf("%v; not %v", after, before)
		}
	}
}

// leave takes one out of the list of no bits, by hand.
func (w town) leave(t *testing.T, p, x, r api.Ref) {
	t.Helper()
	other := api.Owner{Agent: 9, Op: 9}
	w.must(t, p, api.Ask{Kind: api.QLock, Owner: other})
	w.must(t, x, api.Ask{Kind: api.QLock, Owner: other})
	w.must(t, p, api.Ask{Kind: api.QRight, Ref: r, Owner: other})
	w.must(t, r, api.Ask{Kind: api.QLeft, Ref: p})
	w.must(t, x, api.Ask{Kind: api.QOut, Owner: other})
	w.must(t, p, api.Ask{Kind: api.QFree, Owner: other})
}

// P13.2: a key that is there and marked: it waits, without a lock, and goes in once that one has left.
func TestInMarked(t *testing.T) {
	w := row5(t, 2, 5, 9)
	old, me := ref(5, ""), api.Ref{ID: 99, Key: at(5)}
	w.must(t, old, api.Ask{Kind: api.QJoined})
	w.must(t, old, api.Ask{Kind: api.QMark})
	before := w.records()
	w.come(t, me)
	s := begin(t, settings(me, head(0), 0))
	for range 5 {
		if x, _ := w.run(t, s, 1); x.Kind != api.SWait {
			t.Fatalf("wants %v", x)
		}
		if now := w.records(); !reflect.DeepEqual(before, now) {
			t.Fatalf("%v; not %v", now, before)
		}
	}
	w.leave(t, ref(2, ""), old, ref(9, ""))
	if x, way := w.run(t, s, 1); !same(x, over(api.OK, ref(2, ""), ref(9, ""))) {
		t.Fatalf("%v by %v", x, way)
	}
	w.stands(t, ref(2, ""), me, ref(9, ""))
}

// P13.2: a peer of its key in a list of bits, which is about to leave: it waits, without a lock, and goes in then.
func TestInSameOfBits(t *testing.T) {
	w := found(t, 1)
	old, me := ref(5, "1"), api.Ref{ID: 99, Key: at(5), Vec: v("1")}
	w.enter(t, old)
	before := w.records()
	w.come(t, me)
	s := begin(t, settings(me, head(1), 1))
	if x, _ := w.run(t, s, 3); x.Kind != api.SWait || !reflect.DeepEqual(before, w.records()) {
		t.Fatalf("wants %v", x)
	}
	other := api.Owner{Agent: 9, Op: 9}
	w.must(t, head(1), api.Ask{Kind: api.QLock, W: v("1"), Owner: other})
	w.must(t, old, api.Ask{Kind: api.QLock, W: v("1"), Owner: other})
	w.must(t, head(1), api.Ask{Kind: api.QRight, W: v("1"), Ref: tail(1), Owner: other})
	w.must(t, old, api.Ask{Kind: api.QOut, W: v("1"), Owner: other})
	w.must(t, head(1), api.Ask{Kind: api.QFree, W: v("1"), Owner: other})
	if x, way := w.run(t, s, 1); !same(x, over(api.OK, head(1), tail(1))) {
		t.Fatalf("%v by %v", x, way)
	}
}

// P13.2: one that is in the list already, at another place in time: ErrTaken, and nothing is changed; no lock is held.
func TestInTaken(t *testing.T) {
	w := row5(t, 2, 9)
	me := ref(5, "")
	w.come(t, me)
	other := api.Owner{Agent: 9, Op: 9}
	w.must(t, me, api.Ask{Kind: api.QRec, Ref: head(0), Ref2: tail(0), Owner: other})
	before := w.records()
	if x, way := w.run(t, begin(t, settings(me, head(0), 0)), 0); !same(x, over(api.ErrTaken)) || !reflect.DeepEqual(before, w.records()) {
		t.Fatalf("%v by %v", x, way)
	}
}

// P13.2: from one that has left: ErrAgain, and nothing is changed; from one beside it that was told of: back to the last one.
func TestInGone(t *testing.T) {
	w := row5(t, 2, 4, 9)
	me := ref(5, "")
	w.come(t, me)
	two, four := ref(2, ""), ref(4, "")
	s := begin(t, settings(me, two, 0))
	s.Tell(w.ask(t, two, s.Next().Ask))
	s.Tell(w.ask(t, two, s.Next().Ask))
	w.leave(t, two, four, ref(9, ""))
	before := w.records()
	if x, way := w.run(t, begin(t, settings(me, four, 0)), 0); !same(x, over(api.ErrAgain)) || !reflect.DeepEqual(before, w.records()) {
		t.Fatalf("%v by %v", x, way)
	}
	if x, way := w.run(t, s, 1); !same(x, over(api.OK, two, ref(9, ""))) {
		t.Fatalf("%v by %v", x, way)
	}
	w.stands(t, two, me, ref(9, ""))
}

// drawn are so many members of a height, in an order of chance, with IDs in no order of their keys.
func drawn(d *draw, height, n int) []api.Ref {
	var l []api.Ref
	k := uint64(d.below(3))
	for i := range n {
		w := api.Vec{Len: height}
		for range height {
			w.Bits = w.Bits*2 + uint64(d.below(2))
		}
		l = append(l, api.Ref{Key: at(k), Vec: w})
		j := d.below(i + 1)
		l[i], l[j] = l[j], l[i]
		k += 1 + uint64(d.below(3))
	}
	for i := range l {
		l[i].ID = 2 + i
	}
	return l
}

// from is a member of a list below somebody, or the head, by chance.
func from(d *draw, me api.Ref, level int, l []api.Ref) api.Ref {
	all := []api.Ref{head(me.Vec.Len)}
	for _, m := range l {
		if below(m.Key, me.Key) && m.Vec.Bits>>(m.Vec.Len-level) == me.Vec.Bits>>(me.Vec.Len-level) {
			all = append(all, m)
		}
	}
	return all[d.below(len(all))]
}

// P13.2, P13.4: peers come one by one, each into all its lists, from anybody to the left: all stand as in the graph with them; of each one more, of a key that is there, nothing comes.
func TestInMany(t *testing.T) {
	d := draw(7)
	for range 60 {
		height := d.below(5)
		l := drawn(&d, height, 1+d.below(14))
		w := found(t, height)
		for i, me := range l {
			w.come(t, me)
			for level := range height + 1 {
				c := settings(me, from(&d, me, level, l[:i]), level)
				x, way := w.run(t, begin(t, c), 0)
				left, right, e := graph.Beside(height, c.W, me.ID, l[:i+1]...)
				if !same(x, over(api.OK, left, right)) || e != api.OK {
					t.Fatalf("%v among %v: %v by %v; not %v, %v, %d", c, l[:i], x, way, left, right, e)
				}
			}
			w.stands(t, l[:i+1]...)
			twin := api.Ref{ID: 500, Key: me.Key, Vec: me.Vec}
			w.come(t, twin)
			c := settings(twin, from(&d, me, 0, l[:i]), 0)
			left, _, _ := graph.Beside(height, c.W, me.ID, l[:i+1]...)
			if x, way := w.run(t, begin(t, c), 0); !same(x, over(api.ErrExists, left, me)) {
				t.Fatalf("%v among %v: %v by %v", c, l[:i+1], x, way)
			}
			w.stands(t, l[:i+1]...)
		}
	}
}
