package remove

import (
	"bytes"
	"reflect"
	"slices"
	"strconv"
	"testing"

	"leapfrog/api"
	"leapfrog/graph"
	"leapfrog/insert"
	"leapfrog/peer"
)

// town is peers that answer as chapter 9 says, by their IDs; those that were killed answer by their wills; and what was seen of each removal that ran there.
type town struct {
	height int
	peers  map[int]*peer.Peer
	killed map[int]bool
	seen   map[machine]*watch
}

// builder is who locks for those that are put in, or by hand.
var builder = api.Owner{Agent: 9, Op: 9}

// found makes a town of the two ends, and of some who come one by one, from the head.
func found(t *testing.T, height int, l ...api.Ref) town {
	t.Helper()
	w := town{height: height, peers: map[int]*peer.Peer{}, killed: map[int]bool{}, seen: map[machine]*watch{}}
	for id, high := range []bool{false, true} {
		p, e := peer.End(high, height)
		if e != api.OK {
			t.Fatalf("End: %d", e)
		}
		w.peers[id] = p
	}
	for _, me := range l {
		if x, way := w.run(t, w.comes(t, me, low(height), builder), 0, -1); !same(x, over(api.OK)) {
			t.Fatalf("%v: %v by %v", me, x, kinds(way))
		}
	}
	return w
}

// value is that of a peer.
func value(me api.Ref) []byte {
	return []byte("v" + strconv.Itoa(me.ID))
}

// comes lets one be there, in no list, and begins to insert it, from somebody on.
func (w town) comes(t *testing.T, me, start api.Ref, owner api.Owner) *insert.Insert {
	t.Helper()
	p, e := peer.New(me, value(me))
	if e != api.OK {
		t.Fatalf("New(%v): %d", me, e)
	}
	w.peers[me.ID] = p
	m, e := insert.New(api.InsertConf{Height: w.height, Me: me, Start: start, Owner: owner})
	if e != api.OK {
		t.Fatalf("New(%v): %d", me, e)
	}
	return m
}

// goes begins to remove a key, from somebody on.
func (w town) goes(t *testing.T, key uint64, start api.Ref) *Remove {
	t.Helper()
	m := begin(t, api.RemoveConf{Height: w.height, Start: start, Key: key, Owner: own})
	w.seen[m] = &watch{key: key}
	return m
}

// will is what one that was killed answers, of a list.
func (w town) will(t *testing.T, id int, list api.Vec) api.Answer {
	t.Helper()
	a, e := w.peers[id].Will(list)
	if e != api.OK {
		t.Fatalf("Will: %d", e)
	}
	return a
}

// ask is one's answer, which it must give at once.
func (w town) ask(t *testing.T, to api.Ref, a api.Ask) api.Answer {
	t.Helper()
	if w.killed[to.ID] {
		return w.will(t, to.ID, a.W)
	}
	l, e := w.peers[to.ID].Ask(1, a)
	if e != api.OK || len(l) != 1 {
		t.Fatalf("%v asked %v: %v, %d", to, a, l, e)
	}
	return l[0].Answer
}

// must asks one for what it must answer AOK to.
func (w town) must(t *testing.T, to api.Ref, a api.Ask) api.Answer {
	t.Helper()
	x := w.ask(t, to, a)
	if x.Kind != api.AOK {
		t.Fatalf("%v asked %v: %v", to, a, x)
	}
	return x
}

// run plays a machine till it is over, or has waited so many times, or, from 0 on, has asked so many times: its last step, and all that it wanted.
func (w town) run(t *testing.T, m machine, ticks, most int) (api.Step, []api.Step) {
	t.Helper()
	var way []api.Step
	saw := w.seen[m]
	for range 10000 {
		x := m.Next()
		if x.Kind != api.SAsk && saw != nil {
			saw.sees(t, x, api.Answer{})
		}
		switch {
		case x.Kind == api.SWait && ticks > 0:
			ticks--
			m.Wake()
		case x.Kind != api.SAsk || most == 0:
			return x, way
		default:
			most--
			a := w.ask(t, x.To, x.Ask)
			if saw != nil {
				saw.sees(t, x, a)
			}
			m.Tell(a)
		}
		way = append(way, x)
	}
	t.Fatal("it does not end")
	return api.Step{}, nil
}

// kinds are what was asked, of whom; a wait is 0 of nobody.
func kinds(way []api.Step) [][2]int {
	var l [][2]int
	for _, x := range way {
		l = append(l, [2]int{int(x.Ask.Kind), x.To.ID})
	}
	return l
}

// plainState is a state in which empty lists are nil.
func plainState(s api.PeerState) api.PeerState {
	if len(s.Value) == 0 {
		s.Value = nil
	}
	if len(s.Recs) == 0 {
		s.Recs = nil
	}
	for i := range s.Recs {
		if len(s.Recs[i].Waits) == 0 {
			s.Recs[i].Waits = nil
		}
	}
	return s
}

// states are those of all, by their IDs.
func (w town) states() map[int]api.PeerState {
	all := map[int]api.PeerState{}
	for id, p := range w.peers {
		all[id] = plainState(p.State())
	}
	return all
}

// stands holds all states against those of the graph of some; each other one is out of all lists, and was removed, if it has joined.
func (w town) stands(t *testing.T, l ...api.Ref) {
	t.Helper()
	graphs, e := graph.Records(w.height, l...)
	if e != api.OK {
		t.Fatalf("Records(%v): %d", l, e)
	}
	want := map[int]api.PeerState{}
	for _, x := range graphs {
		if x.Me.ID > 1 {
			x.Value = value(x.Me)
		}
		want[x.Me.ID] = plainState(x)
	}
	for id, p := range w.peers {
		if _, is := want[id]; !is {
			joined := p.State().Joined
			me := p.State().Me
			want[id] = api.PeerState{Me: me, Value: value(me), Joined: joined, Marked: joined}
		}
	}
	if got := w.states(); !reflect.DeepEqual(got, want) {
		t.Fatalf("of %v: %v; not %v", l, got, want)
	}
}

// without are some, but one.
func without(l []api.Ref, x api.Ref) []api.Ref {
	return slices.DeleteFunc(slices.Clone(l), func(r api.Ref) bool { return r == x })
}

// leaves removes a peer's key, from somebody on: OK, and all stand as without it.
func (w town) leaves(t *testing.T, x, start api.Ref, l []api.Ref) {
	t.Helper()
	m := w.goes(t, x.Key.N, start)
	if end, way := w.run(t, m, 0, -1); !same(end, over(api.OK)) || !m.Marked() {
		t.Fatalf("%v among %v from %v: %v by %v", x, l, start, end, kinds(way))
	}
	w.stands(t, without(l, x)...)
}

// absent removes a key that is not there, from somebody on: ErrAbsent, and nothing is changed.
func (w town) absent(t *testing.T, key uint64, start api.Ref) {
	t.Helper()
	before := w.states()
	m := w.goes(t, key, start)
	if end, way := w.run(t, m, 0, -1); !same(end, over(api.ErrAbsent)) || m.Marked() || !reflect.DeepEqual(before, w.states()) {
		t.Fatalf("%d from %v: %v by %v", key, start, end, kinds(way))
	}
}

// free holds that no living one's lock is held, or waited for.
func (w town) free(t *testing.T) {
	t.Helper()
	for id, s := range w.states() {
		for _, r := range s.Recs {
			if !w.killed[id] && (r.Held || len(r.Waits) > 0) {
				t.Fatalf("of %d: %v", id, r)
			}
		}
	}
}

// drawn are so many members of a height, in an order of chance, with IDs in no order of their keys; few lets them share their first bits, but two.
func drawn(d *draw, height, n int, few bool) []api.Ref {
	var l []api.Ref
	k := uint64(d.below(3))
	for i := range n {
		w := api.Vec{Len: height}
		for j := range height {
			bit := uint64(d.below(2))
			if few && j < height-2 {
				bit = 0
			}
			w.Bits = w.Bits*2 + bit
		}
		l = append(l, api.Ref{Key: at(k), Vec: w})
		j := d.below(i + 1)
		l[i], l[j] = l[j], l[i]
		k += 1 + uint64(d.below(3))
	}
	for i := range l {
		l[i].ID = 2 + i
	}
	return l
}

// P16.3: the only one, of each height, from both ends, and from itself; then it is absent.
func TestOnlyOne(t *testing.T) {
	d := draw(2)
	for height := range api.MaxVec + 1 {
		x := drawn(&d, height, 1, false)[0]
		for _, start := range []api.Ref{low(height), high(height), x} {
			w := found(t, height, x)
			w.leaves(t, x, start, []api.Ref{x})
			w.absent(t, x.Key.N, low(height))
			w.absent(t, x.Key.N, high(height))
			// One that has left all its lists is no beginning, but the head is.
			w.absent(t, x.Key.N, x)
		}
	}
}

// P16.3: the keys at the edges; and of an empty graph any key is absent.
func TestEdges(t *testing.T) {
	a, b := api.Ref{ID: 2, Key: at(0), Vec: v("1")}, api.Ref{ID: 1023, Key: at(top), Vec: v("1")}
	l := []api.Ref{a, b}
	for _, x := range l {
		for _, start := range []api.Ref{low(1), high(1), a, b} {
			w := found(t, 1, l...)
			w.absent(t, 1, start)
			w.absent(t, top-1, start)
			w.leaves(t, x, start, l)
			w.absent(t, x.Key.N, start)
		}
	}
	for _, height := range []int{0, 1, 5, 32} {
		w := found(t, height)
		for _, k := range []uint64{0, 5, top} {
			w.absent(t, k, low(height))
			w.absent(t, k, high(height))
		}
	}
}

// P16.3: among few: each key, and each that is not there, from any of them, and from the ends.
func TestFromAny(t *testing.T) {
	d := draw(4)
	for range 25 {
		height := d.below(5)
		l := drawn(&d, height, 1+d.below(7), d.below(2) == 0)
		for _, start := range append([]api.Ref{low(height), high(height)}, l...) {
			w := found(t, height, l...)
			for k := range uint64(25) {
				if !slices.ContainsFunc(l, func(r api.Ref) bool { return r.Key == at(k) }) {
					w.absent(t, k, start)
				}
			}
			for _, x := range l {
				found(t, height, l...).leaves(t, x, start, l)
			}
		}
	}
}

// P16.3: many go, one by one, from somebody who is there, till nobody is; each that is gone is absent.
func TestAmongMany(t *testing.T) {
	d := draw(8)
	for _, height := range []int{0, 1, 2, 3, 4, 5, 8, 32} {
		for _, n := range []int{3, 10, 25} {
			l := drawn(&d, height, n, d.below(2) == 0)
			w := found(t, height, l...)
			for i, x := range l {
				somebody := append([]api.Ref{low(height), high(height)}, l[i:]...)
				w.leaves(t, x, somebody[d.below(len(somebody))], l[i:])
				w.absent(t, l[d.below(i+1)].Key.N, somebody[d.below(2)])
				// Who has gone comes again, as another one, and goes again.
				other := api.Ref{ID: 500 + i, Key: x.Key, Vec: l[d.below(n)].Vec}
				w.run(t, w.comes(t, other, low(height), builder), 0, -1)
				w.leaves(t, other, high(height), append(slices.Clone(l[i+1:]), other))
			}
		}
	}
}

// P16.2, P16.3: one that another one marked, and that is in its lists: absent, and nothing is changed.
func TestMarkedByOther(t *testing.T) {
	l := []api.Ref{ref(3, "10"), ref(5, "11"), ref(8, "01")}
	for _, start := range append([]api.Ref{low(2), high(2)}, l...) {
		w := found(t, 2, l...)
		w.must(t, l[1], api.Ask{Kind: api.QMark})
		w.absent(t, 5, start)
		w.goesBeside(t, l[2], start, l[1])
	}
}

// goesBeside removes a peer's key, while another one stands in its lists, marked.
func (w town) goesBeside(t *testing.T, x, start, other api.Ref) {
	t.Helper()
	if end, way := w.run(t, w.goes(t, x.Key.N, start), 0, -1); !same(end, over(api.OK)) {
		t.Fatalf("%v from %v: %v by %v", x, start, end, kinds(way))
	}
	if s := w.states(); len(s[x.ID].Recs) > 0 || len(s[other.ID].Recs) != w.height+1 {
		t.Fatalf("%v; %v", s[x.ID], s[other.ID])
	}
	w.free(t)
}

// P16.2, P16.3: one that has not joined is marked once it has, and goes then.
func TestNotJoined(t *testing.T) {
	x := ref(5, "1")
	w := found(t, 1, ref(3, "1"))
	in := w.comes(t, x, low(1), builder)
	for in.Next().Ask.Kind != api.QJoined {
		w.run(t, in, 0, 1)
	}
	m := w.goes(t, 5, low(1))
	for m.Next().Ask.Kind != api.QMark {
		w.run(t, m, 0, 1)
	}
	if l, e := w.peers[x.ID].Ask(7, m.Next().Ask); e != api.OK || len(l) > 0 {
		t.Fatalf("%v, %d", l, e)
	}
	l, e := w.peers[x.ID].Ask(8, in.Next().Ask)
	if e != api.OK || len(l) != 2 || l[1].Ticket != 7 {
		t.Fatalf("%v, %d", l, e)
	}
	w.seen[m].sees(t, m.Next(), l[1].Answer)
	m.Tell(l[1].Answer)
	if !m.Marked() || !bytes.Equal(l[1].Answer.Value, value(x)) {
		t.Fatalf("%v", l[1])
	}
	if end, way := w.run(t, m, 0, -1); !same(end, over(api.OK)) {
		t.Fatalf("%v by %v", end, kinds(way))
	}
	w.stands(t, ref(3, "1"))
}

// P16.2, P16.3: the key's peer is dead: ErrDead, from anybody else; and nothing is changed.
func TestDeadX(t *testing.T) {
	l := []api.Ref{ref(3, "10"), ref(5, "11"), ref(8, "01")}
	for _, start := range []api.Ref{low(2), high(2), l[0], l[2]} {
		w := found(t, 2, l...)
		w.killed[15] = true
		before := w.states()
		m := w.goes(t, 5, start)
		if end, way := w.run(t, m, 0, -1); !same(end, over(api.ErrDead)) || m.Marked() || !reflect.DeepEqual(before, w.states()) {
			t.Fatalf("from %v: %v by %v", start, end, kinds(way))
		}
		// Dead ones on its way it passes, and finds that a key is not there.
		w.absent(t, 6, start)
		w.absent(t, 9, start)
	}
	// From itself: the search keeps the will of the list in which it read it, and is told of it again in those of less bits alone.
	w := found(t, 2, l...)
	w.killed[15] = true
	if end, way := w.run(t, w.goes(t, 5, l[1]), 0, -1); !same(end, over(api.ErrDead)) {
		t.Fatalf("%v by %v", end, kinds(way))
	}
	x := ref(5, "")
	w = found(t, 0, ref(3, ""), x)
	w.killed[15] = true
	w.absent(t, 5, x)
}

// P16.3: dead ones that it need not pass are no hindrance: whom it begins with, those far to the left, the one to its right in each list.
func TestDeadElsewhere(t *testing.T) {
	l := []api.Ref{ref(2, "11"), ref(3, "10"), ref(4, "11"), ref(5, "11"), ref(7, "11"), ref(8, "10"), ref(9, "01")}
	x := l[3]
	for _, c := range []struct {
		start  api.Ref
		killed []int
	}{
		{l[0], []int{12}}, {l[1], []int{13}}, {l[5], []int{18}}, {l[6], []int{19}}, {x, []int{17, 18, 19}},
		{low(2), []int{17}}, {high(2), []int{17, 18, 19}}, {l[4], []int{17, 18}}, {l[0], []int{12, 13, 17, 18, 19}},
	} {
		w := found(t, 2, l...)
		for _, id := range c.killed {
			w.killed[id] = true
		}
		m := w.goes(t, 5, c.start)
		if end, way := w.run(t, m, 0, -1); !same(end, over(api.OK)) {
			t.Fatalf("from %v, dead %v: %v by %v", c.start, c.killed, end, kinds(way))
		}
		w.free(t)
		for level := range 3 {
			list := first(x.Vec, level)
			left, right, _ := graph.Beside(2, list, x.ID, l...)
			if a := w.ask(t, left, api.Ask{Kind: api.QRead, W: list}); a.Right != right {
				t.Fatalf("from %v, dead %v: in %v %v", c.start, c.killed, list, a)
			}
		}
		if s := w.states()[x.ID]; !s.Marked || len(s.Recs) > 0 {
			t.Fatalf("%v", s)
		}
	}
}

// pass lets the one to the left of another in a list, which is dead, stand beside the one to its right.
func (w town) pass(t *testing.T, list api.Vec, left, right api.Ref) {
	t.Helper()
	w.must(t, left, api.Ask{Kind: api.QLock, W: list, Owner: builder})
	w.must(t, left, api.Ask{Kind: api.QRight, W: list, Ref: right, Owner: builder})
	w.must(t, right, api.Ask{Kind: api.QLeft, W: list, Ref: left})
	w.must(t, left, api.Ask{Kind: api.QFree, W: list, Owner: builder})
}

// P16.3, P16.5: the one to its left in some of its lists is dead: it waits, marked, without a lock, out of the lists above; once somebody has mended that, it goes.
func TestDeadLeft(t *testing.T) {
	for level := range 3 {
		// 4 is to the left of 5 in the lists up to that of the level.
		four := api.Ref{ID: 14, Key: at(4), Vec: v([]string{"00", "10", "11"}[level])}
		l := []api.Ref{ref(3, "11"), four, ref(5, "11"), ref(8, "11")}
		x := l[2]
		for _, start := range append([]api.Ref{low(2), high(2)}, l...) {
			w := found(t, 2, l...)
			w.killed[14] = true
			m := w.goes(t, 5, start)
			for n := level; n >= 0; n-- {
				for range 3 {
					end, way := w.run(t, m, 3, -1)
					if !same(end, waits()) || !m.Marked() || len(w.states()[15].Recs) != n+1 {
						t.Fatalf("from %v: in %v: %v by %v", start, w.states()[15].Recs, end, kinds(way))
					}
					w.free(t)
				}
				w.pass(t, first(x.Vec, n), l[0], x)
			}
			if end, way := w.run(t, m, 1, -1); !same(end, over(api.OK)) {
				t.Fatalf("from %v: %v by %v", start, end, kinds(way))
			}
			for n := level + 1; n < 3; n++ {
				if list := first(four.Vec, n); list != first(x.Vec, n) {
					w.pass(t, list, low(2), high(2))
				}
			}
			delete(w.peers, 14)
			w.stands(t, l[0], l[3])
		}
	}
}

// P16.2, P16.5: the key's peer is killed, behind each ask: ErrDead ahead of the mark, OK behind it; and no lock is held.
func TestKilledX(t *testing.T) {
	l := []api.Ref{ref(2, "10"), ref(3, "11"), ref(4, "01"), ref(5, "11"), ref(7, "11"), ref(9, "10")}
	for _, start := range []api.Ref{low(2), high(2), l[0], l[5]} {
		w := found(t, 2, l...)
		_, way := w.run(t, w.goes(t, 5, start), 0, -1)
		for asked := range len(way) + 1 {
			w := found(t, 2, l...)
			m := w.goes(t, 5, start)
			w.run(t, m, 0, asked)
			marked := m.Marked()
			w.killed[15] = true
			want := over(api.ErrDead)
			if marked {
				want = over(api.OK)
			}
			if end, way := w.run(t, m, 0, -1); !same(end, want) || m.Marked() != marked {
				t.Fatalf("from %v, killed behind %d asks: %v by %v", start, asked, end, kinds(way))
			}
			w.free(t)
		}
	}
}

// P16.5: somebody else is killed, behind each ask: whether it goes, or waits, it holds no lock of a living one.
func TestKilledOthers(t *testing.T) {
	l := []api.Ref{ref(2, "10"), ref(3, "11"), ref(4, "01"), ref(5, "11"), ref(7, "11"), ref(9, "10")}
	ends := map[api.StepKind]int{}
	for _, start := range append([]api.Ref{low(2), high(2)}, l...) {
		w := found(t, 2, l...)
		_, way := w.run(t, w.goes(t, 5, start), 0, -1)
		for asked := range way {
			for _, x := range without(l, l[3]) {
				w := found(t, 2, l...)
				m := w.goes(t, 5, start)
				w.run(t, m, 0, asked)
				w.killed[x.ID] = true
				end, way := w.run(t, m, 5, -1)
				if !same(end, waits()) && !same(end, over(api.OK)) {
					t.Fatalf("%v killed behind %d asks: %v by %v", x, asked, end, kinds(way))
				}
				w.free(t)
				ends[end.Kind]++
			}
		}
	}
	if ends[api.SWait] < 100 || ends[api.SDone] < 100 {
		t.Error(ends)
	}
}

// P16.2, P16.3: between its asks others go, whole: it goes all the same.
func TestOthersGo(t *testing.T) {
	l := []api.Ref{ref(2, "10"), ref(3, "11"), ref(4, "01"), ref(5, "11"), ref(7, "11"), ref(9, "10")}
	more := 0
	for _, start := range append([]api.Ref{low(2), high(2)}, l...) {
		w := found(t, 2, l...)
		_, way := w.run(t, w.goes(t, 5, start), 0, -1)
		for asked := range way {
			for _, x := range without(l, l[3]) {
				w := found(t, 2, l...)
				m := w.goes(t, 5, start)
				w.run(t, m, 0, asked)
				if len(w.seen[m].held) > 0 {
					continue
				}
				w.run(t, w.goes(t, x.Key.N, low(2)), 0, -1)
				end, rest := w.run(t, m, 5, -1)
				if !same(end, over(api.OK)) {
					t.Fatalf("%v gone behind %d asks: %v by %v", x, asked, end, kinds(rest))
				}
				w.stands(t, without(without(l, l[3]), x)...)
				if asked+len(rest) > len(way) {
					more++
				}
			}
		}
	}
	if more < 20 {
		t.Error(more)
	}
}

// P16.2: between its asks another one removes the key: ErrAbsent, if that was ahead of its mark; else the other one is told that.
func TestRaced(t *testing.T) {
	l := []api.Ref{ref(3, "11"), ref(4, "01"), ref(5, "11"), ref(7, "11"), ref(9, "10")}
	for _, start := range append([]api.Ref{low(2), high(2)}, l...) {
		w := found(t, 2, l...)
		_, way := w.run(t, w.goes(t, 5, start), 0, -1)
		for asked := range way {
			w := found(t, 2, l...)
			m := w.goes(t, 5, start)
			w.run(t, m, 0, asked)
			if len(w.seen[m].held) > 0 {
				continue
			}
			other := w.goes(t, 5, low(2))
			mine, others := over(api.ErrAbsent), over(api.OK)
			if m.Marked() {
				mine, others = others, mine
			}
			if end, way := w.run(t, other, 0, -1); !same(end, others) {
				t.Fatalf("behind %d asks: %v by %v", asked, end, kinds(way))
			}
			if end, way := w.run(t, m, 0, -1); !same(end, mine) {
				t.Fatalf("behind %d asks: %v by %v", asked, end, kinds(way))
			}
			w.stands(t, without(l, l[2])...)
		}
	}
}

// P16.3: it leaps: among many it asks few.
func TestFew(t *testing.T) {
	d := draw(5)
	l := drawn(&d, 8, 300, false)
	w := found(t, 8, l...)
	_, way := w.run(t, w.goes(t, l[0].Key.N, low(8)), 0, -1)
	if len(way) > 150 {
		t.Errorf("%d asks", len(way))
	}
	w.stands(t, l[1:]...)
}
