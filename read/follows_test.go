package read

import (
	"reflect"
	"slices"
	"strconv"
	"testing"

	"leapfrog/api"
	"leapfrog/insert"
	"leapfrog/model"
	"leapfrog/peer"
)

// machine is what runs against a town.
type machine interface {
	Next() api.Step
	Tell(a api.Answer)
	Wake()
}

// town is peers that answer as chapter 9 says, by their IDs; those that were killed answer by their wills.
type town struct {
	height int
	l      []api.Ref
	peers  map[int]*peer.Peer
	killed map[int]bool
}

// builder is who locks for those that are put in, or by hand.
var builder = api.Owner{Agent: 9, Op: 9}

// found makes a town of the two ends, and of some who come one by one, from the head.
func found(t *testing.T, height int, l ...api.Ref) town {
	t.Helper()
	w := town{height: height, l: l, peers: map[int]*peer.Peer{}, killed: map[int]bool{}}
	for id, high := range []bool{false, true} {
		p, e := peer.End(high, height)
		if e != api.OK {
			t.Fatalf("End: %d", e)
		}
		w.peers[id] = p
	}
	for _, me := range l {
		if x, way := w.run(t, w.comes(t, me, low(height), builder), 0, -1); !same(x, over(api.OK)) {
			t.Fatalf("%v: %v by %v", me, x, kinds(way))
		}
	}
	return w
}

// value is that of a peer; every third has none.
func value(me api.Ref) []byte {
	if me.ID%3 == 0 {
		return nil
	}
	return []byte("v" + strconv.Itoa(me.ID))
}

// comes lets one be there, in no list, and begins to insert it, from somebody on.
func (w town) comes(t *testing.T, me, start api.Ref, owner api.Owner) *insert.Insert {
	t.Helper()
	p, e := peer.New(me, value(me))
	if e != api.OK {
		t.Fatalf("New(%v): %d", me, e)
	}
	w.peers[me.ID] = p
	m, e := insert.New(api.InsertConf{Height: w.height, Me: me, Start: start, Owner: owner})
	if e != api.OK {
		t.Fatalf("New(%v): %d", me, e)
	}
	return m
}

// will is what one that was killed answers, of a list.
func (w town) will(t *testing.T, id int, list api.Vec) api.Answer {
	t.Helper()
	a, e := w.peers[id].Will(list)
	if e != api.OK {
		t.Fatalf("Will: %d", e)
	}
	return a
}

// ask is one's answer, which it must give at once.
func (w town) ask(t *testing.T, to api.Ref, a api.Ask) api.Answer {
	t.Helper()
	if w.killed[to.ID] {
		return w.will(t, to.ID, a.W)
	}
	l, e := w.peers[to.ID].Ask(1, a)
	if e != api.OK || len(l) != 1 {
		t.Fatalf("%v asked %v: %v, %d", to, a, l, e)
	}
	return l[0].Answer
}

// must asks one for what it must answer AOK to.
func (w town) must(t *testing.T, to api.Ref, a api.Ask) {
	t.Helper()
	if x := w.ask(t, to, a); x.Kind != api.AOK {
		t.Fatalf("%v asked %v: %v", to, a, x)
	}
}

// run plays a machine till it is over, or has waited so many times, or, from 0 on, has asked so many times: its last step, and all that it wanted.
func (w town) run(t *testing.T, m machine, ticks, most int) (api.Step, []api.Step) {
	t.Helper()
	var way []api.Step
	for range 10000 {
		x := m.Next()
		switch {
		case x.Kind == api.SWait && ticks > 0:
			ticks--
			m.Wake()
		case x.Kind != api.SAsk || most == 0:
			return x, way
		default:
			most--
			m.Tell(w.ask(t, x.To, x.Ask))
		}
		way = append(way, x)
	}
	t.Fatal("it does not end")
	return api.Step{}, nil
}

// kinds are what was asked, of whom; a wait is 0 of nobody.
func kinds(way []api.Step) [][2]int {
	var l [][2]int
	for _, x := range way {
		l = append(l, [2]int{int(x.Ask.Kind), x.To.ID})
	}
	return l
}

// states are those of all, by their IDs.
func (w town) states() map[int]api.PeerState {
	all := map[int]api.PeerState{}
	for id, p := range w.peers {
		all[id] = p.State()
	}
	return all
}

// living are the items of those that live.
func (w town) living() []api.Item {
	var l []api.Item
	for _, x := range w.l {
		if !w.killed[x.ID] {
			l = append(l, api.Item{Key: x.Key.N, Value: value(x)})
		}
	}
	slices.SortFunc(l, func(a, b api.Item) int {
		if a.Key < b.Key {
			return -1
		}
		return 1
	})
	return l
}

// call is that of a Get, or of a Ceil.
func call(k uint64, ceil bool) api.Call {
	if ceil {
		return api.Call{Kind: api.CCeil, Key: k}
	}
	return api.Call{Kind: api.CGet, Key: k}
}

// hidden tells whether who is the first from a key on is dead, and behind another dead one, below the key. There, by the chapter's words, a Ceil reads the right side of the last living one, which is below the key: so it begins again, and finds the same.
func (w town) hidden(k uint64) bool {
	l := slices.Clone(w.l)
	slices.SortFunc(l, func(a, b api.Ref) int {
		if below(a.Key, b.Key) {
			return -1
		}
		return 1
	})
	i := slices.IndexFunc(l, func(r api.Ref) bool { return !below(r.Key, at(k)) })
	return i > 0 && w.killed[l[i].ID] && w.killed[l[i-1].ID]
}

// tells reads a key, from somebody on, by a Get, or by a Ceil: what the map of the living ones has; and nothing is changed, and nobody asked but by QRead and QGet.
func (w town) tells(t *testing.T, k uint64, ceil bool, start api.Ref) int {
	t.Helper()
	before := w.states()
	m := begin(t, api.ReadConf{Height: w.height, Start: start, Key: k, Ceil: ceil})
	end, way := w.run(t, m, 0, -1)
	_, want, e := model.Do(w.living(), call(k, ceil))
	if ceil && w.hidden(k) {
		want = api.Result{E: api.ErrBusy}
	}
	if e != api.OK || !same(end, api.Step{Kind: api.SDone, Result: want}) {
		t.Fatalf("%d of %v, dead %v, from %v, ceil %t: %v by %v; not %v", k, w.l, w.killed, start, ceil, end, kinds(way), want)
	}
	if !reflect.DeepEqual(before, w.states()) {
		t.Fatal("it changed a peer")
	}
	for _, x := range way {
		if x.Kind != api.SAsk || x.Ask.Kind != api.QRead && x.Ask.Kind != api.QGet {
			t.Fatalf("%d from %v, ceil %t: wants %v", k, start, ceil, x)
		}
	}
	return len(way)
}

// all reads each key up to one, from somebody on, by both.
func (w town) all(t *testing.T, most uint64, start api.Ref) {
	t.Helper()
	for k := range most + 1 {
		w.tells(t, k, false, start)
		w.tells(t, k, true, start)
	}
}

// drawn are so many members of a height, in an order of chance, with IDs in no order of their keys; few lets them share their first bits, but two.
func drawn(d *draw, height, n int, few bool) []api.Ref {
	var l []api.Ref
	k := uint64(d.below(3))
	for i := range n {
		w := api.Vec{Len: height}
		for j := range height {
			bit := uint64(d.below(2))
			if few && j < height-2 {
				bit = 0
			}
			w.Bits = w.Bits*2 + bit
		}
		l = append(l, api.Ref{Key: at(k), Vec: w})
		j := d.below(i + 1)
		l[i], l[j] = l[j], l[i]
		k += 1 + uint64(d.below(3))
	}
	for i := range l {
		l[i].ID = 2 + i
	}
	return l
}

// P17.2: of nobody, and of one, of each height, from both ends, and from itself.
func TestFewest(t *testing.T) {
	d := draw(2)
	for height := range api.MaxVec + 1 {
		w := found(t, height)
		w.all(t, 3, low(height))
		w.all(t, 3, high(height))
		x := drawn(&d, height, 1, false)[0]
		for _, start := range []api.Ref{low(height), high(height), x} {
			found(t, height, x).all(t, 4, start)
		}
	}
}

// P17.2: the keys at the edges.
func TestEdges(t *testing.T) {
	a, b := api.Ref{ID: 2, Key: at(0), Vec: v("1")}, api.Ref{ID: 1023, Key: at(top), Vec: v("1")}
	for _, l := range [][]api.Ref{{}, {a}, {b}, {a, b}} {
		for _, start := range append([]api.Ref{low(1), high(1)}, l...) {
			w := found(t, 1, l...)
			for _, k := range []uint64{0, 1, 1 << 63, top - 1, top} {
				w.tells(t, k, false, start)
				w.tells(t, k, true, start)
			}
		}
	}
}

// P17.2: all live: each key that is there, and each that is not, by both, from any of them, and from the ends.
func TestFromAny(t *testing.T) {
	d := draw(4)
	for range 60 {
		height := d.below(5)
		l := drawn(&d, height, 1+d.below(9), d.below(2) == 0)
		w := found(t, height, l...)
		for _, start := range append([]api.Ref{low(height), high(height)}, l...) {
			w.all(t, 30, start)
		}
	}
}

// P17.2: among many, of which some are dead, not more than a search gets past: each key, by both, from the head.
func TestSomeDead(t *testing.T) {
	d := draw(8)
	hidden, plain := 0, 0
	for range 60 {
		height := d.below(6)
		l := drawn(&d, height, 2+d.below(30), d.below(2) == 0)
		w := found(t, height, l...)
		for range d.below(min(len(l), api.MaxTries/(height+1))) {
			w.killed[2+d.below(len(l))] = true
		}
		w.all(t, uint64(4*len(l)), low(height))
		for k := range uint64(4 * len(l)) {
			if w.hidden(k) {
				hidden++
			} else {
				plain++
			}
		}
	}
	if hidden < 100 || plain < 1000 {
		t.Error(hidden, plain)
	}
}

// P17.2: with one dead at most behind each other, all of it holds for each key, from the head.
func TestDeadApart(t *testing.T) {
	d := draw(9)
	for range 60 {
		height := d.below(5)
		l := drawn(&d, height, 2+d.below(12), false)
		sorted := slices.Clone(l)
		slices.SortFunc(sorted, func(a, b api.Ref) int { return int(a.Key.N) - int(b.Key.N) })
		w := found(t, height, l...)
		for i := d.below(2); i < len(l); i += 2 + d.below(2) {
			w.killed[sorted[i].ID] = true
		}
		for k := range uint64(40) {
			if w.hidden(k) {
				t.Fatal("two of the dead stand side by side")
			}
		}
		w.all(t, 40, low(height))
	}
}

// P17.2: a Ceil goes over the dead, from the first one on, to a living one, and to the tail; asking each of them once.
func TestOverDead(t *testing.T) {
	for height := range 4 {
		var l []api.Ref
		for n := range 30 {
			l = append(l, api.Ref{ID: 2 + n, Key: at(uint64(10 + 2*n)), Vec: api.Vec{Len: height, Bits: uint64(n*5) % (1 << height)}})
		}
		for _, c := range []struct{ from, to int }{{0, 0}, {0, 1}, {1, 4}, {5, 20}, {0, 28}, {29, 29}, {20, 29}, {0, 29}} {
			w := found(t, height, l...)
			for n := c.from; n <= c.to; n++ {
				w.killed[2+n] = true
			}
			for _, k := range []uint64{uint64(9 + 2*c.from), uint64(10 + 2*c.from)} {
				// Each of the dead costs QGet, and QRead of the one to the left.
				if n := w.tells(t, k, true, low(height)); n > 80+2*(c.to-c.from+1) {
					t.Errorf("%d asks", n)
				}
				w.tells(t, k, false, low(height))
			}
			w.tells(t, uint64(12+2*c.to), true, low(height))
		}
	}
}

// By the chapter's words: between the last living one and the key one is dead, and the first from the key on, too: it begins again till it is busy; once somebody has mended the right side of the living one, it tells what is there.
func TestHidden(t *testing.T) {
	l := []api.Ref{ref(3, ""), ref(4, ""), ref(6, ""), ref(9, "")}
	w := found(t, 0, l...)
	w.killed[14], w.killed[16] = true, true
	m := begin(t, plain(0, true))
	end, way := w.run(t, m, 0, -1)
	gotten := 0
	for _, x := range way {
		if x.Ask.Kind == api.QGet {
			gotten++
		}
	}
	if !same(end, over(api.ErrBusy)) || gotten != api.MaxTries+1 {
		t.Fatalf("%v by %v", end, kinds(way))
	}
	for _, right := range []api.Ref{l[2], l[3]} {
		w := found(t, 0, l...)
		w.killed[14], w.killed[16] = true, true
		m := begin(t, plain(0, true))
		w.run(t, m, 0, 20)
		w.must(t, l[0], api.Ask{Kind: api.QLock, Owner: builder})
		w.must(t, l[0], api.Ask{Kind: api.QRight, Ref: right, Owner: builder})
		if end, way := w.run(t, m, 0, -1); !same(end, tells(9, string(value(l[3])))) {
			t.Fatalf("%v by %v", end, kinds(way))
		}
	}
}

// One that is marked, and in its lists: a Get is told that it is absent; a Ceil waits, till it is out of them.
func TestMarked(t *testing.T) {
	l := []api.Ref{ref(3, "10"), ref(5, "11"), ref(8, "01")}
	for _, start := range append([]api.Ref{low(2), high(2)}, l...) {
		w := found(t, 2, l...)
		w.must(t, l[1], api.Ask{Kind: api.QMark})
		if end, _ := w.run(t, begin(t, api.ReadConf{Height: 2, Start: start, Key: 5}), 0, -1); !same(end, over(api.ErrAbsent)) {
			t.Fatalf("%v", end)
		}
		m := begin(t, api.ReadConf{Height: 2, Start: start, Key: 5, Ceil: true})
		for range 5 {
			if end, _ := w.run(t, m, 0, -1); !same(end, waits()) {
				t.Fatalf("%v", end)
			}
			m.Wake()
		}
		w.must(t, l[0], api.Ask{Kind: api.QLock, Owner: builder})
		w.must(t, l[0], api.Ask{Kind: api.QRight, Ref: l[2], Owner: builder})
		w.must(t, l[2], api.Ask{Kind: api.QLeft, Ref: l[0]})
		for range 2 {
			m.Tell(w.ask(t, m.Next().To, m.Next().Ask))
		}
		if end, way := w.run(t, m, 1, -1); !same(end, tells(8, string(value(l[2])))) {
			t.Fatalf("%v by %v", end, kinds(way))
		}
	}
}

// Somebody is killed behind each ask: what is told is what a map had, ahead of it or behind it.
func TestKilled(t *testing.T) {
	l := []api.Ref{ref(2, "10"), ref(3, "11"), ref(4, "01"), ref(6, "11"), ref(7, "11"), ref(9, "10")}
	changed := 0
	for _, start := range []api.Ref{low(2), high(2)} {
		for k := range uint64(11) {
			for _, ceil := range []bool{false, true} {
				c := api.ReadConf{Height: 2, Start: start, Key: k, Ceil: ceil}
				w := found(t, 2, l...)
				ahead, way := w.run(t, begin(t, c), 0, -1)
				for asked := range way {
					for _, x := range l {
						w := found(t, 2, l...)
						m := begin(t, c)
						w.run(t, m, 0, asked)
						w.killed[x.ID] = true
						_, want, _ := model.Do(w.living(), call(k, ceil))
						end, way := w.run(t, m, 0, -1)
						if behind := (api.Step{Kind: api.SDone, Result: want}); !same(end, ahead) && !same(end, behind) {
							t.Fatalf("%v, %v killed behind %d asks: %v by %v", c, x, asked, end, kinds(way))
						}
						if !same(end, ahead) {
							changed++
						}
					}
				}
			}
		}
	}
	if changed < 50 {
		t.Error(changed)
	}
}

// P17.2: it leaps: among many it asks few.
func TestFew(t *testing.T) {
	d := draw(5)
	l := drawn(&d, 8, 300, false)
	w := found(t, 8, l...)
	for _, k := range []uint64{0, 100, 300, l[7].Key.N} {
		for _, ceil := range []bool{false, true} {
			if n := w.tells(t, k, ceil, low(8)); n > 60 {
				t.Errorf("%d asks", n)
			}
		}
	}
}
