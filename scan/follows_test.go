package scan

import (
	"reflect"
	"slices"
	"strconv"
	"testing"

	"leapfrog/api"
	"leapfrog/insert"
	"leapfrog/model"
	"leapfrog/peer"
)

// machine is what runs against a town.
type machine interface {
	Next() api.Step
	Tell(a api.Answer)
	Wake()
}

// town is peers that answer as chapter 9 says, by their IDs; those that were killed answer by their wills.
type town struct {
	height int
	l      []api.Ref
	peers  map[int]*peer.Peer
	killed map[int]bool
	marked map[int]bool
}

// builder is who locks for those that are put in, or by hand.
var builder = api.Owner{Agent: 9, Op: 9}

// found makes a town of the two ends, and of some who come one by one, from the head.
func found(t *testing.T, height int, l ...api.Ref) town {
	t.Helper()
	w := town{height: height, l: l, peers: map[int]*peer.Peer{}, killed: map[int]bool{}, marked: map[int]bool{}}
	for id, high := range []bool{false, true} {
		p, e := peer.End(high, height)
		if e != api.OK {
			t.Fatalf("End: %d", e)
		}
		w.peers[id] = p
	}
	for _, me := range l {
		if x, way := w.run(t, w.comes(t, me, low(height), builder), 0, -1); x.Kind != api.SDone || x.Result.E != api.OK {
			t.Fatalf("%v: %v by %v", me, x, kinds(way))
		}
	}
	return w
}

// value is that of a peer; every third has none.
func value(me api.Ref) []byte {
	if me.ID%3 == 0 {
		return nil
	}
	return []byte("v" + strconv.Itoa(me.ID))
}

// comes lets one be there, in no list, and begins to insert it, from somebody on.
func (w town) comes(t *testing.T, me, start api.Ref, owner api.Owner) *insert.Insert {
	t.Helper()
	p, e := peer.New(me, value(me))
	if e != api.OK {
		t.Fatalf("New(%v): %d", me, e)
	}
	w.peers[me.ID] = p
	m, e := insert.New(api.InsertConf{Height: w.height, Me: me, Start: start, Owner: owner})
	if e != api.OK {
		t.Fatalf("New(%v): %d", me, e)
	}
	return m
}

// will is what one that was killed answers, of a list.
func (w town) will(t *testing.T, id int, list api.Vec) api.Answer {
	t.Helper()
	a, e := w.peers[id].Will(list)
	if e != api.OK {
		t.Fatalf("Will: %d", e)
	}
	return a
}

// ask is one's answer, which it must give at once.
func (w town) ask(t *testing.T, to api.Ref, a api.Ask) api.Answer {
	t.Helper()
	if w.killed[to.ID] {
		return w.will(t, to.ID, a.W)
	}
	l, e := w.peers[to.ID].Ask(1, a)
	if e != api.OK || len(l) != 1 {
		t.Fatalf("%v asked %v: %v, %d", to, a, l, e)
	}
	return l[0].Answer
}

// must asks one for what it must answer AOK to.
func (w town) must(t *testing.T, to api.Ref, a api.Ask) {
	t.Helper()
	if x := w.ask(t, to, a); x.Kind != api.AOK {
		t.Fatalf("%v asked %v: %v", to, a, x)
	}
}

// run plays a machine till it is over, or has waited so many times, or, from 0 on, has asked so many times: its last step, and all that it wanted.
func (w town) run(t *testing.T, m machine, ticks, most int) (api.Step, []api.Step) {
	t.Helper()
	var way []api.Step
	for range 10000 {
		x := m.Next()
		switch {
		case x.Kind == api.SWait && ticks > 0:
			ticks--
			m.Wake()
		case x.Kind != api.SAsk || most == 0:
			return x, way
		default:
			most--
			m.Tell(w.ask(t, x.To, x.Ask))
		}
		way = append(way, x)
	}
	t.Fatal("it does not end")
	return api.Step{}, nil
}

// kinds are what was asked, of whom; a wait is 0 of nobody.
func kinds(way []api.Step) [][2]int {
	var l [][2]int
	for _, x := range way {
		l = append(l, [2]int{int(x.Ask.Kind), x.To.ID})
	}
	return l
}

// states are those of all, by their IDs.
func (w town) states() map[int]api.PeerState {
	all := map[int]api.PeerState{}
	for id, p := range w.peers {
		all[id] = p.State()
	}
	return all
}

// living are the items of those that live, and are not marked.
func (w town) living() []api.Item {
	var l []api.Item
	for _, x := range w.l {
		if !w.killed[x.ID] && !w.marked[x.ID] {
			l = append(l, api.Item{Key: x.Key.N, Value: value(x)})
		}
	}
	slices.SortFunc(l, func(a, b api.Item) int {
		if a.Key < b.Key {
			return -1
		}
		return 1
	})
	return l
}

// call is that of a Range.
func call(c api.ScanConf) api.Call {
	return api.Call{Kind: api.CRange, Key: c.Low, High: c.High}
}

// told is what a map of those that live, and are not marked, tells of a range.
func (w town) told(t *testing.T, c api.ScanConf) api.Step {
	t.Helper()
	_, r, e := model.Do(w.living(), call(c))
	if e != api.OK {
		t.Fatalf("Do: %d", e)
	}
	return api.Step{Kind: api.SDone, Result: r}
}

// tells ranges over some: what the map has; and nothing is changed, and nobody asked but by QRead and QGet. How many asks, and how often it sought again.
func (w town) tells(t *testing.T, c api.ScanConf) (int, int) {
	t.Helper()
	before := w.states()
	m := begin(t, c)
	end, way := w.run(t, m, api.MaxTries, -1)
	if want := w.told(t, c); !same(end, want) {
		t.Fatalf("%v of %v, dead %v: %v by %v; not %v", c, w.l, w.killed, end, kinds(way), want)
	}
	if !reflect.DeepEqual(before, w.states()) {
		t.Fatal("it changed a peer")
	}
	waited := 0
	for _, x := range way {
		switch {
		case x.Kind == api.SWait:
			waited++
		case x.Kind != api.SAsk || x.Ask.Kind != api.QRead && x.Ask.Kind != api.QGet:
			t.Fatalf("%v: wants %v", c, x)
		}
	}
	if len(w.killed) == 0 {
		tried(t, m, 0)
	}
	tried(t, m, waited)
	return len(way), waited
}

// all ranges from each key up to one, to each, from somebody on.
func (w town) all(t *testing.T, most uint64, start api.Ref) {
	t.Helper()
	for k := range most + 1 {
		for n := range most + 1 {
			w.tells(t, api.ScanConf{Height: w.height, Start: start, Low: k, High: n})
		}
	}
}

// drawn are so many members of a height, in an order of chance, with IDs in no order of their keys; few lets them share their first bits, but two.
func drawn(d *draw, height, n int, few bool) []api.Ref {
	var l []api.Ref
	k := uint64(d.below(3))
	for i := range n {
		w := api.Vec{Len: height}
		for j := range height {
			bit := uint64(d.below(2))
			if few && j < height-2 {
				bit = 0
			}
			w.Bits = w.Bits*2 + bit
		}
		l = append(l, api.Ref{Key: at(k), Vec: w})
		j := d.below(i + 1)
		l[i], l[j] = l[j], l[i]
		k += 1 + uint64(d.below(3))
	}
	for i := range l {
		l[i].ID = 2 + i
	}
	return l
}

// P18.4: of nobody, and of one, of each height, from both ends, and from itself.
func TestFewest(t *testing.T) {
	d := draw(2)
	for height := range api.MaxVec + 1 {
		w := found(t, height)
		w.all(t, 2, low(height))
		w.all(t, 2, high(height))
		x := drawn(&d, height, 1, false)[0]
		for _, start := range []api.Ref{low(height), high(height), x} {
			found(t, height, x).all(t, 3, start)
		}
	}
}

// P18.4: the keys at the edges.
func TestEdges(t *testing.T) {
	a, b := api.Ref{ID: 2, Key: at(0), Vec: v("1")}, api.Ref{ID: 1023, Key: at(top), Vec: v("1")}
	edges := []uint64{0, 1, 1 << 63, top - 1, top}
	for _, l := range [][]api.Ref{{}, {a}, {b}, {a, b}} {
		for _, start := range append([]api.Ref{low(1), high(1)}, l...) {
			w := found(t, 1, l...)
			for _, k := range edges {
				for _, n := range edges {
					w.tells(t, api.ScanConf{Height: 1, Start: start, Low: k, High: n})
				}
			}
		}
	}
}

// marks lets some be marked, in their lists as they are.
func (w town) marks(t *testing.T, d *draw, n int) {
	t.Helper()
	for range n {
		x := w.l[d.below(len(w.l))]
		if !w.marked[x.ID] {
			w.must(t, x, api.Ask{Kind: api.QMark})
			w.marked[x.ID] = true
		}
	}
}

// P18.4: all live, some are marked: each range, from any of them, and from the ends, without a wait.
func TestFromAny(t *testing.T) {
	d := draw(4)
	for range 25 {
		height := d.below(5)
		l := drawn(&d, height, 1+d.below(8), d.below(2) == 0)
		w := found(t, height, l...)
		w.marks(t, &d, d.below(4))
		for _, start := range append([]api.Ref{low(height), high(height)}, l...) {
			w.all(t, 18, start)
		}
	}
}

// P18.4: as many as may be told, and one more; marked ones are not counted.
func TestMany(t *testing.T) {
	d := draw(6)
	for _, height := range []int{0, 3, 8} {
		l := drawn(&d, height, 200, false)
		w := found(t, height, l...)
		large := 0
		for part := range 2 {
			w.marks(t, &d, 60*part)
			for _, start := range []api.Ref{low(height), high(height), l[7]} {
				items := w.living()
				for i := range 3 {
					for n := api.MaxRange - 2; n <= api.MaxRange+2; n++ {
						c := api.ScanConf{Height: height, Start: start, Low: items[20*i].Key, High: items[20*i+n-1].Key}
						asks, _ := w.tells(t, c)
						if asks < n || asks > n+60+220*part+250*(1-min(height, 1)) {
							t.Errorf("%d asks for %d items", asks, n)
						}
						if n > api.MaxRange {
							large++
						}
					}
				}
			}
			w.tells(t, api.ScanConf{Height: height, Start: low(height), High: top})
		}
		if large != 36 {
			t.Error(large)
		}
	}
}

// By the chapter's words, among many of which some are dead, not more than a search gets past: all ranges, from the head; each of the dead that was not found by a search costs a wait at most.
func TestSomeDead(t *testing.T) {
	d := draw(8)
	waits := 0
	for range 60 {
		height := d.below(6)
		l := drawn(&d, height, 2+d.below(30), d.below(2) == 0)
		w := found(t, height, l...)
		w.marks(t, &d, d.below(3))
		for range d.below(min(len(l), api.MaxTries/(height+1))) {
			w.killed[2+d.below(len(l))] = true
		}
		for range 40 {
			k := uint64(d.below(2 * len(l)))
			_, waited := w.tells(t, api.ScanConf{Height: height, Start: low(height), Low: k, High: k + uint64(d.below(3*len(l)))})
			if waited > len(w.killed) {
				t.Errorf("%d waits, %d dead", waited, len(w.killed))
			}
			waits += waited
		}
	}
	if waits < 1000 {
		t.Error(waits)
	}
}

// A row of the dead costs one wait, if it is met from the left; none, if the search finds it.
func TestDeadRow(t *testing.T) {
	for height := range 3 {
		var l []api.Ref
		for n := range 20 {
			l = append(l, api.Ref{ID: 2 + n, Key: at(uint64(10 + 2*n)), Vec: api.Vec{Len: height, Bits: uint64(n*5) % (1 << height)}})
		}
		for _, c := range []struct{ from, to int }{{0, 0}, {0, 1}, {1, 4}, {5, 15}, {0, 18}, {19, 19}, {12, 19}, {0, 19}} {
			w := found(t, height, l...)
			for n := c.from; n <= c.to; n++ {
				w.killed[2+n] = true
			}
			ahead, in := uint64(10), uint64(10+2*c.from)
			_, waited := w.tells(t, api.ScanConf{Height: height, Start: low(height), Low: ahead, High: 99})
			if want := min(c.from, 1); waited != want {
				t.Errorf("%v: %d waits", c, waited)
			}
			for _, k := range []uint64{in, in - 1} {
				if _, waited := w.tells(t, api.ScanConf{Height: height, Start: low(height), Low: k, High: 99}); waited != 0 {
					t.Errorf("%v: %d waits from %d on", c, waited, k)
				}
			}
		}
	}
}

// Somebody is killed behind each ask: all others are told, and with OK nobody else but the one that was killed.
func TestKilled(t *testing.T) {
	l := []api.Ref{ref(2, "10"), ref(3, "11"), ref(4, "01"), ref(6, "11"), ref(7, "11"), ref(9, "10")}
	changed := 0
	for _, start := range []api.Ref{low(2), high(2)} {
		for _, c := range []api.ScanConf{{Low: 0, High: 10}, {Low: 3, High: 7}, {Low: 4, High: 9}, {Low: 5, High: 5}, {Low: 6, High: 6}} {
			c.Height, c.Start = 2, start
			w := found(t, 2, l...)
			ahead, way := w.run(t, begin(t, c), 0, -1)
			for asked := range way {
				for _, x := range l {
					w := found(t, 2, l...)
					m := begin(t, c)
					w.run(t, m, 0, asked)
					w.killed[x.ID] = true
					end, way := w.run(t, m, 9, -1)
					if behind := w.told(t, c); !same(end, ahead) && !same(end, behind) {
						t.Fatalf("%v, %v killed behind %d asks: %v by %v", c, x, asked, end, kinds(way))
					}
					if !same(end, ahead) {
						changed++
					}
				}
			}
		}
	}
	if changed < 50 {
		t.Error(changed)
	}
}

// between changes a town, between two asks of a scan: somebody stands to the right of another one then, whose right side that changes.
func (w town) between(t *testing.T, left api.Ref, change func()) {
	t.Helper()
	w.must(t, left, api.Ask{Kind: api.QLock, Owner: builder})
	change()
	w.must(t, left, api.Ask{Kind: api.QFree, Owner: builder})
}

// P18.6: whoever is at hand goes out of its lists, or comes anew behind: those that stay, with one right side all the while, are told.
func TestStays(t *testing.T) {
	l := []api.Ref{ref(2, ""), ref(4, ""), ref(6, ""), ref(8, ""), ref(9, "")}
	c := api.ScanConf{Start: low(0), Low: 3, High: 9}
	for asked := range 8 {
		// 6 goes.
		w := found(t, 0, l...)
		m := begin(t, c)
		w.run(t, m, 0, asked)
		w.between(t, l[1], func() {
			w.must(t, l[2], api.Ask{Kind: api.QLock, Owner: builder})
			w.must(t, l[2], api.Ask{Kind: api.QMark})
			w.must(t, l[1], api.Ask{Kind: api.QRight, Ref: l[3], Owner: builder})
			w.must(t, l[3], api.Ask{Kind: api.QLeft, Ref: l[1]})
			w.must(t, l[2], api.Ask{Kind: api.QOut, Owner: builder})
		})
		end, way := w.run(t, m, 9, -1)
		with := tells(item(4, "v14"), item(6, "v16"), item(8, ""), item(9, "v19"))
		without := tells(item(4, "v14"), item(8, ""), item(9, "v19"))
		if !same(end, with) && !same(end, without) {
			t.Fatalf("%v by %v", end, kinds(way))
		}
		// 7 comes, and it is told, if 6 was not yet.
		w = found(t, 0, l...)
		m = begin(t, c)
		w.run(t, m, 0, asked)
		if x, _ := w.run(t, w.comes(t, ref(7, ""), low(0), builder), 0, -1); x.Result.E != api.OK {
			t.Fatal(x)
		}
		end, way = w.run(t, m, 9, -1)
		come := tells(item(4, "v14"), item(6, "v16"), item(7, "v17"), item(8, ""), item(9, "v19"))
		if !same(end, with) && !same(end, come) || same(end, come) != (asked < 4) {
			t.Fatalf("%d asks: %v by %v", asked, end, kinds(way))
		}
	}
}

// P18.4: it leaps to its low key, and goes from one to the next then: among many it asks few.
func TestFew(t *testing.T) {
	d := draw(5)
	l := drawn(&d, 8, 300, false)
	w := found(t, 8, l...)
	items := w.living()
	for _, i := range []int{0, 100, 250, 299} {
		for n := range 20 {
			last := min(i+n, 299)
			asks, _ := w.tells(t, api.ScanConf{Height: 8, Start: low(8), Low: items[i].Key, High: items[last].Key})
			if asks > 50+n {
				t.Errorf("%d asks", asks)
			}
		}
	}
}
