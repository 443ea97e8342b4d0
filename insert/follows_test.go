package insert

import (
	"reflect"
	"slices"
	"testing"

	"leapfrog/api"
	"leapfrog/graph"
	"leapfrog/peer"
)

// town is peers that answer as chapter 9 says, by their IDs; those that were killed answer by their wills; and what each insertion that ran there holds.
type town struct {
	height int
	peers  map[int]*peer.Peer
	killed map[int]bool
	seen   map[*Insert]*watch
}

// found makes a town of the two ends, and of some who come one by one, from the head.
func found(t *testing.T, height int, l ...api.Ref) town {
	t.Helper()
	w := town{height: height, peers: map[int]*peer.Peer{}, killed: map[int]bool{}, seen: map[*Insert]*watch{}}
	for id, high := range []bool{false, true} {
		p, e := peer.End(high, height)
		if e != api.OK {
			t.Fatalf("End: %d", e)
		}
		w.peers[id] = p
	}
	for _, me := range l {
		m := w.comes(t, me, low(height))
		if x, way := w.run(t, m, 0, -1); !same(x, over(api.OK)) {
			t.Fatalf("%v: %v by %v", me, x, kinds(way))
		}
	}
	return w
}

// comes lets one be there, in no list, and begins to insert it, from somebody on.
func (w town) comes(t *testing.T, me, start api.Ref) *Insert {
	t.Helper()
	p, e := peer.New(me, nil)
	if e != api.OK {
		t.Fatalf("New(%v): %d", me, e)
	}
	w.peers[me.ID] = p
	return begin(t, api.InsertConf{Height: w.height, Me: me, Start: start, Owner: own})
}

// will is what one that was killed answers, of a list.
func (w town) will(t *testing.T, id int, list api.Vec) api.Answer {
	t.Helper()
	a, e := w.peers[id].Will(list)
	if e != api.OK {
		t.Fatalf("Will: %d", e)
	}
	return a
}

// ask is one's answer, which it must give at once.
func (w town) ask(t *testing.T, to api.Ref, a api.Ask) api.Answer {
	t.Helper()
	if w.killed[to.ID] {
		return w.will(t, to.ID, a.W)
	}
	l, e := w.peers[to.ID].Ask(1, a)
	if e != api.OK || len(l) != 1 {
		t.Fatalf("%v asked %v: %v, %d", to, a, l, e)
	}
	return l[0].Answer
}

// must asks one for what it must answer AOK to.
func (w town) must(t *testing.T, to api.Ref, a api.Ask) api.Answer {
	t.Helper()
	x := w.ask(t, to, a)
	if x.Kind != api.AOK {
		t.Fatalf("%v asked %v: %v", to, a, x)
	}
	return x
}

// run plays an insertion till it is over, or has waited so many times, or, from 0 on, has asked so many times: its last step, and all that it wanted.
func (w town) run(t *testing.T, m *Insert, ticks, most int) (api.Step, []api.Step) {
	t.Helper()
	var way []api.Step
	if w.seen[m] == nil {
		w.seen[m] = &watch{}
	}
	for range 10000 {
		x := m.Next()
		if x.Kind != api.SAsk {
			w.seen[m].sees(t, x, api.Answer{})
		}
		switch {
		case x.Kind == api.SWait && ticks > 0:
			ticks--
			m.Wake()
		case x.Kind != api.SAsk || most == 0:
			return x, way
		default:
			most--
			a := w.ask(t, x.To, x.Ask)
			w.seen[m].sees(t, x, a)
			m.Tell(a)
		}
		way = append(way, x)
	}
	t.Fatal("it does not end")
	return api.Step{}, nil
}

// kinds are what was asked, of whom; a wait is 0 of nobody.
func kinds(way []api.Step) [][2]int {
	var l [][2]int
	for _, x := range way {
		l = append(l, [2]int{int(x.Ask.Kind), x.To.ID})
	}
	return l
}

// plainState is a state in which empty lists are nil.
func plainState(s api.PeerState) api.PeerState {
	if len(s.Value) == 0 {
		s.Value = nil
	}
	if len(s.Recs) == 0 {
		s.Recs = nil
	}
	for i := range s.Recs {
		if len(s.Recs[i].Waits) == 0 {
			s.Recs[i].Waits = nil
		}
	}
	return s
}

// states are those of all, by their IDs.
func (w town) states() map[int]api.PeerState {
	all := map[int]api.PeerState{}
	for id, p := range w.peers {
		all[id] = plainState(p.State())
	}
	return all
}

// stands holds all states against those of the graph of some; of the others, who stand in no list and have not joined, nothing is there.
func (w town) stands(t *testing.T, l ...api.Ref) {
	t.Helper()
	graphs, e := graph.Records(w.height, l...)
	if e != api.OK {
		t.Fatalf("Records(%v): %d", l, e)
	}
	want := map[int]api.PeerState{}
	for _, x := range graphs {
		want[x.Me.ID] = plainState(x)
	}
	for id, p := range w.peers {
		if _, is := want[id]; !is {
			want[id] = api.PeerState{Me: p.State().Me}
		}
	}
	if got := w.states(); !reflect.DeepEqual(got, want) {
		t.Fatalf("of %v: %v; not %v", l, got, want)
	}
}

// free holds that no living one's lock is held, or waited for.
func (w town) free(t *testing.T) {
	t.Helper()
	for id, s := range w.states() {
		for _, r := range s.Recs {
			if !w.killed[id] && (r.Held || len(r.Waits) > 0) {
				t.Fatalf("of %d: %v", id, r)
			}
		}
	}
}

// drawn are so many members of a height, in an order of chance, with IDs in no order of their keys; few lets them share their first bits, but two.
func drawn(d *draw, height, n int, few bool) []api.Ref {
	var l []api.Ref
	k := uint64(d.below(3))
	for i := range n {
		w := api.Vec{Len: height}
		for j := range height {
			bit := uint64(d.below(2))
			if few && j < height-2 {
				bit = 0
			}
			w.Bits = w.Bits*2 + bit
		}
		l = append(l, api.Ref{Key: at(k), Vec: w})
		j := d.below(i + 1)
		l[i], l[j] = l[j], l[i]
		k += 1 + uint64(d.below(3))
	}
	for i := range l {
		l[i].ID = 2 + i
	}
	return l
}

// P15.2: into an empty graph, of each height, from both ends, and from itself.
func TestIntoEmpty(t *testing.T) {
	d := draw(2)
	for height := range api.MaxVec + 1 {
		me := drawn(&d, height, 1, false)[0]
		for _, start := range []api.Ref{low(height), high(height), me} {
			w := found(t, height)
			if x, way := w.run(t, w.comes(t, me, start), 0, -1); !same(x, over(api.OK)) {
				t.Fatalf("%v from %v: %v by %v", me, start, x, kinds(way))
			}
			w.stands(t, me)
		}
	}
}

// P15.2: the keys at the edges.
func TestEdges(t *testing.T) {
	a, b := api.Ref{ID: 2, Key: at(0), Vec: v("1")}, api.Ref{ID: 1023, Key: at(top), Vec: v("1")}
	for _, l := range [][]api.Ref{{a, b}, {b, a}} {
		for _, start := range []api.Ref{low(1), high(1), l[0]} {
			w := found(t, 1, l[0])
			if x, way := w.run(t, w.comes(t, l[1], start), 0, -1); !same(x, over(api.OK)) {
				t.Fatalf("%v from %v: %v by %v", l[1], start, x, kinds(way))
			}
			w.stands(t, a, b)
		}
	}
}

// P15.2: among few: from any of them, and from the ends.
func TestFromAny(t *testing.T) {
	d := draw(4)
	for range 40 {
		height := d.below(5)
		l := drawn(&d, height, 2+d.below(7), d.below(2) == 0)
		me, others := l[0], l[1:]
		for _, start := range append([]api.Ref{low(height), high(height)}, others...) {
			w := found(t, height, others...)
			w.stands(t, others...)
			if x, way := w.run(t, w.comes(t, me, start), 0, -1); !same(x, over(api.OK)) {
				t.Fatalf("%v among %v from %v: %v by %v", me, others, start, x, kinds(way))
			}
			w.stands(t, l...)
		}
	}
}

// P15.2: many come, one by one, from somebody who is there: all stand as in their graph; of each one more, of a key that is there, nothing comes, and all stand as before.
func TestAmongMany(t *testing.T) {
	d := draw(8)
	for _, height := range []int{0, 1, 2, 3, 4, 5, 8, 32} {
		for _, n := range []int{3, 10, 25} {
			l := drawn(&d, height, n, d.below(2) == 0)
			w := found(t, height)
			for i, me := range l {
				somebody := append([]api.Ref{low(height), high(height)}, l[:i]...)
				start := somebody[d.below(len(somebody))]
				if x, way := w.run(t, w.comes(t, me, start), 0, -1); !same(x, over(api.OK)) {
					t.Fatalf("%v among %v from %v: %v by %v", me, l[:i], start, x, kinds(way))
				}
				w.stands(t, l[:i+1]...)
				twin := api.Ref{ID: 500 + i, Key: l[d.below(i+1)].Key, Vec: me.Vec}
				start = somebody[d.below(len(somebody))]
				if x, way := w.run(t, w.comes(t, twin, start), 0, -1); !same(x, over(api.ErrExists)) {
					t.Fatalf("%v among %v from %v: %v by %v", twin, l[:i+1], start, x, kinds(way))
				}
				w.stands(t, l[:i+1]...)
			}
		}
	}
}

// P15.2: is its key there, ErrExists, from any of them; and Me stands in no list, and has not joined.
func TestExists(t *testing.T) {
	d := draw(6)
	for range 20 {
		height := d.below(4)
		l := drawn(&d, height, 1+d.below(6), true)
		for _, old := range l {
			for _, start := range append([]api.Ref{low(height), high(height)}, l...) {
				w := found(t, height, l...)
				twin := api.Ref{ID: 99, Key: old.Key, Vec: l[0].Vec}
				m := w.comes(t, twin, start)
				before := w.states()
				if x, way := w.run(t, m, 0, -1); !same(x, over(api.ErrExists)) || !reflect.DeepEqual(before, w.states()) {
					t.Fatalf("%v among %v from %v: %v by %v", twin, l, start, x, kinds(way))
				}
				w.stands(t, l...)
			}
		}
	}
}

// P15.2: who is in already, by another machine, and has its key to its right, is told ErrExists, by itself; and nothing is changed.
func TestTwice(t *testing.T) {
	l := []api.Ref{ref(3, "10"), ref(5, "10"), ref(8, "11")}
	w := found(t, 2, l...)
	m := begin(t, api.InsertConf{Height: 2, Me: l[1], Start: l[2], Owner: own})
	if x, way := w.run(t, m, 0, -1); !same(x, over(api.ErrExists)) {
		t.Fatalf("%v by %v", x, kinds(way))
	}
	w.stands(t, l...)
}

// builder is whose locks are taken by hand.
var builder = api.Owner{Agent: 9, Op: 9}

// pass lets the one to the left of another in a list, which is dead, or leaves, stand beside the one to its right.
func (w town) pass(t *testing.T, list api.Vec, left, right api.Ref) {
	t.Helper()
	w.must(t, left, api.Ask{Kind: api.QLock, W: list, Owner: builder})
	w.must(t, left, api.Ask{Kind: api.QRight, W: list, Ref: right, Owner: builder})
	w.must(t, right, api.Ask{Kind: api.QLeft, W: list, Ref: left})
	w.must(t, left, api.Ask{Kind: api.QFree, W: list, Owner: builder})
}

// leave takes one out of all its lists, by hand.
func (w town) leave(t *testing.T, x api.Ref, l ...api.Ref) {
	t.Helper()
	for level := w.height; level >= 0; level-- {
		list := first(x.Vec, level)
		left, right, e := graph.Beside(w.height, list, x.ID, l...)
		if e != api.OK {
			t.Fatalf("Beside(%v): %d", x, e)
		}
		w.must(t, x, api.Ask{Kind: api.QLock, W: list, Owner: builder})
		w.pass(t, list, left, right)
		w.must(t, x, api.Ask{Kind: api.QOut, W: list, Owner: builder})
	}
}

// P15.2, P15.3: its key is there, but marked: it waits, without a lock, and all stand as they stood; once that one has left, it comes in.
func TestMarked(t *testing.T) {
	for _, start := range []api.Ref{low(1), high(1), ref(3, "1"), ref(5, "1"), ref(8, "0")} {
		l := []api.Ref{ref(3, "1"), ref(5, "1"), ref(8, "0")}
		w := found(t, 1, l...)
		w.must(t, l[1], api.Ask{Kind: api.QMark})
		me := api.Ref{ID: 99, Key: at(5), Vec: v("0")}
		m := w.comes(t, me, start)
		before := w.states()
		for range 5 {
			if x, way := w.run(t, m, 1, -1); !same(x, waits()) || !reflect.DeepEqual(before, w.states()) {
				t.Fatalf("from %v: %v by %v", start, x, kinds(way))
			}
		}
		w.leave(t, l[1], l...)
		delete(w.peers, l[1].ID)
		if x, way := w.run(t, m, 1, -1); !same(x, over(api.OK)) {
			t.Fatalf("from %v: %v by %v", start, x, kinds(way))
		}
		w.stands(t, l[0], me, l[2])
	}
}

// P15.2: dead ones that it need not pass are no hindrance: whom it begins with, those far to the left, the one to its right in each list.
func TestDeadElsewhere(t *testing.T) {
	l := []api.Ref{ref(2, "11"), ref(3, "10"), ref(4, "11"), ref(7, "11"), ref(8, "10"), ref(9, "01")}
	me := ref(5, "11")
	for _, x := range []struct {
		start  api.Ref
		killed []int
	}{
		{l[0], []int{12}}, {l[1], []int{13}}, {l[4], []int{18}}, {l[5], []int{19}},
		{low(2), []int{17}}, {high(2), []int{17, 18, 19}}, {l[3], []int{17, 18}}, {l[0], []int{12, 13, 17, 18, 19}},
	} {
		w := found(t, 2, l...)
		for _, id := range x.killed {
			w.killed[id] = true
		}
		m := w.comes(t, me, x.start)
		end, way := w.run(t, m, 0, -1)
		if !same(end, over(api.OK)) {
			t.Fatalf("from %v, dead %v: %v by %v", x.start, x.killed, end, kinds(way))
		}
		w.free(t)
		for level := range 3 {
			list := first(me.Vec, level)
			left, right, _ := graph.Beside(2, list, me.ID, append(slices.Clone(l), me)...)
			a := w.must(t, me, api.Ask{Kind: api.QRead, W: list})
			b := w.ask(t, left, api.Ask{Kind: api.QRead, W: list})
			if a.Left != left || a.Right != right || b.Right != me {
				t.Fatalf("from %v, dead %v: in %v %v; %v", x.start, x.killed, list, a, b)
			}
		}
		if s := w.states()[me.ID]; !s.Joined || s.Marked || len(s.Recs) != 3 {
			t.Fatalf("%v", s)
		}
	}
}

// P15.2, P15.3: the one to its left in one of its lists is dead: it waits, without a lock, in the lists below that it stands; once somebody has mended that, it comes in.
func TestDeadLeft(t *testing.T) {
	for level := range 3 {
		// 4 is to the left of 5 in the lists up to that of the level.
		four := api.Ref{ID: 14, Key: at(4), Vec: v([]string{"00", "10", "11"}[level])}
		l := []api.Ref{ref(3, "11"), four, ref(8, "11")}
		me := ref(5, "11")
		for _, start := range []api.Ref{low(2), high(2), l[0], four, l[2]} {
			w := found(t, 2, l...)
			w.killed[14] = true
			m := w.comes(t, me, start)
			// By now its search has ended at 3, by 4's will; but 3 has 4 to its right.
			for n := range level + 1 {
				for range 3 {
					if x, way := w.run(t, m, 3, -1); !same(x, waits()) || len(w.states()[15].Recs) != n {
						t.Fatalf("from %v: in %v: %v by %v", start, w.states()[15].Recs, x, kinds(way))
					}
					w.free(t)
				}
				w.pass(t, first(four.Vec, n), l[0], l[2])
			}
			if x, way := w.run(t, m, 1, -1); !same(x, over(api.OK)) {
				t.Fatalf("from %v: %v by %v", start, x, kinds(way))
			}
			for n := level + 1; n < 3; n++ {
				if list := first(four.Vec, n); list != first(me.Vec, n) {
					w.pass(t, list, low(2), high(2))
				}
			}
			delete(w.peers, 14)
			w.stands(t, l[0], me, l[2])
		}
	}
}

// P15.3: Me is killed, behind each of its asks: ErrDead, and no lock is held.
func TestKilledMe(t *testing.T) {
	l := []api.Ref{ref(2, "10"), ref(3, "11"), ref(4, "01"), ref(7, "11"), ref(9, "10")}
	me := ref(5, "11")
	w := found(t, 2, l...)
	_, way := w.run(t, w.comes(t, me, l[4]), 0, -1)
	for asked := range len(way) + 1 {
		w := found(t, 2, l...)
		m := w.comes(t, me, l[4])
		w.run(t, m, 0, asked)
		w.killed[15] = true
		want := over(api.ErrDead)
		if asked == len(way) {
			want = over(api.OK)
		}
		if x, way := w.run(t, m, 0, -1); !same(x, want) {
			t.Fatalf("killed behind %d asks: %v by %v", asked, x, kinds(way))
		}
		w.free(t)
	}
}

// P15.3: somebody else is killed, behind each ask: whether it comes in, or waits, it holds no lock of a living one.
func TestKilledOthers(t *testing.T) {
	l := []api.Ref{ref(2, "10"), ref(3, "11"), ref(4, "01"), ref(7, "11"), ref(9, "10")}
	me := ref(5, "11")
	ends := map[api.StepKind]int{}
	for _, start := range append([]api.Ref{low(2), high(2)}, l...) {
		w := found(t, 2, l...)
		_, way := w.run(t, w.comes(t, me, start), 0, -1)
		for asked := range way {
			for _, x := range l {
				w := found(t, 2, l...)
				m := w.comes(t, me, start)
				w.run(t, m, 0, asked)
				w.killed[x.ID] = true
				end, way := w.run(t, m, 5, -1)
				if !same(end, waits()) && !same(end, over(api.OK)) {
					t.Fatalf("%v killed behind %d asks: %v by %v", x, asked, end, kinds(way))
				}
				w.free(t)
				ends[end.Kind]++
			}
		}
	}
	if ends[api.SWait] < 100 || ends[api.SDone] < 100 {
		t.Error(ends)
	}
}

// P15.1: between its asks others leave, as it goes through the lists: it goes back to the search, or to the head, and comes in all the same.
func TestOthersLeave(t *testing.T) {
	l := []api.Ref{ref(2, "10"), ref(3, "11"), ref(4, "01"), ref(7, "11"), ref(9, "10")}
	me := ref(5, "11")
	again := 0
	for _, start := range append([]api.Ref{low(2), high(2)}, l...) {
		w := found(t, 2, l...)
		_, way := w.run(t, w.comes(t, me, start), 0, -1)
		for asked, step := range way {
			// While it holds a lock, nobody leaves by hand.
			if step.Kind == api.SAsk && step.Ask.Kind != api.QRead && step.Ask.Kind != api.QLock && step.Ask.Kind != api.QJoined {
				continue
			}
			for i, x := range l {
				w := found(t, 2, l...)
				m := w.comes(t, me, start)
				w.run(t, m, 0, asked)
				w.leaveAsItStands(t, x)
				end, more := w.run(t, m, 5, -1)
				if !same(end, over(api.OK)) {
					t.Fatalf("%v left behind %d asks: %v by %v", x, asked, end, kinds(more))
				}
				delete(w.peers, x.ID)
				w.stands(t, append(slices.Delete(slices.Clone(l), i, i+1), me)...)
				if asked+len(more) > len(way) {
					again++
				}
			}
		}
	}
	if again < 20 {
		t.Error(again)
	}
}

// leaveAsItStands takes one out of all its lists, by hand, from between those that stand there now.
func (w town) leaveAsItStands(t *testing.T, x api.Ref) {
	t.Helper()
	for level := w.height; level >= 0; level-- {
		list := first(x.Vec, level)
		a := w.must(t, x, api.Ask{Kind: api.QLock, W: list, Owner: builder})
		w.pass(t, list, a.Left, a.Right)
		w.must(t, x, api.Ask{Kind: api.QOut, W: list, Owner: builder})
	}
}

// P15.2: it leaps: among many it asks few.
func TestFew(t *testing.T) {
	d := draw(5)
	l := drawn(&d, 8, 300, false)
	w := found(t, 8, l[1:]...)
	_, way := w.run(t, w.comes(t, l[0], low(8)), 0, -1)
	if len(way) > 250 {
		t.Errorf("%d asks", len(way))
	}
	w.stands(t, l...)
}
