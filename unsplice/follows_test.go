package unsplice

import (
	"reflect"
	"slices"
	"testing"

	"leapfrog/api"
	"leapfrog/graph"
	"leapfrog/peer"
)

// town is peers that answer as chapter 9 says, by their IDs; those that were killed answer by their wills; and what each machine that ran there holds.
type town struct {
	height int
	peers  map[int]*peer.Peer
	killed map[int]bool
	seen   map[*Unsplice]*watch
}

// found makes a town of the two ends and some peers, who stand in all their lists.
func found(t *testing.T, height int, l ...api.Ref) town {
	t.Helper()
	w := town{height: height, peers: map[int]*peer.Peer{}, killed: map[int]bool{}, seen: map[*Unsplice]*watch{}}
	for id, high := range []bool{false, true} {
		p, e := peer.End(high, height)
		if e != api.OK {
			t.Fatalf("End: %d", e)
		}
		w.peers[id] = p
	}
	for i, me := range l {
		w.come(t, me)
		for level := range height + 1 {
			list := first(me.Vec, level)
			left, right, e := graph.Beside(height, list, me.ID, l[:i+1]...)
			if e != api.OK {
				t.Fatalf("Beside(%v): %d", me, e)
			}
			w.enter(t, list, left, me, right)
		}
	}
	return w
}

// first is a vector's first bits.
func first(w api.Vec, n int) api.Vec {
	return api.Vec{Len: n, Bits: w.Bits >> (w.Len - n)}
}

// come lets one be there, in no list.
func (w town) come(t *testing.T, me api.Ref) {
	t.Helper()
	p, e := peer.New(me, []byte("abc"))
	if e != api.OK {
		t.Fatalf("New(%v): %d", me, e)
	}
	w.peers[me.ID] = p
}

// builder is whose locks are taken by hand.
var builder = api.Owner{Agent: 9, Op: 9}

// enter puts one into a list between two, by hand.
func (w town) enter(t *testing.T, list api.Vec, left, me, right api.Ref) {
	t.Helper()
	w.must(t, left, api.Ask{Kind: api.QLock, W: list, Owner: builder})
	w.must(t, me, api.Ask{Kind: api.QRec, W: list, Ref: left, Ref2: right, Owner: builder})
	w.must(t, left, api.Ask{Kind: api.QRight, W: list, Ref: me, Owner: builder})
	w.must(t, right, api.Ask{Kind: api.QLeft, W: list, Ref: left})
	w.must(t, right, api.Ask{Kind: api.QLeft, W: list, Ref: me})
	w.must(t, me, api.Ask{Kind: api.QFree, W: list, Owner: builder})
	w.must(t, left, api.Ask{Kind: api.QFree, W: list, Owner: builder})
}

// will is what one that was killed answers, of a list.
func (w town) will(t *testing.T, id int, list api.Vec) api.Answer {
	t.Helper()
	a, e := w.peers[id].Will(list)
	if e != api.OK {
		t.Fatalf("Will: %d", e)
	}
	return a
}

// ask is one's answer, which it must give at once.
func (w town) ask(t *testing.T, to api.Ref, a api.Ask) api.Answer {
	t.Helper()
	if w.killed[to.ID] {
		return w.will(t, to.ID, a.W)
	}
	l, e := w.peers[to.ID].Ask(1, a)
	if e != api.OK || len(l) != 1 {
		t.Fatalf("%v asked %v: %v, %d", to, a, l, e)
	}
	return l[0].Answer
}

// must asks one for what it must answer AOK to.
func (w town) must(t *testing.T, to api.Ref, a api.Ask) api.Answer {
	t.Helper()
	x := w.ask(t, to, a)
	if x.Kind != api.AOK {
		t.Fatalf("%v asked %v: %v", to, a, x)
	}
	return x
}

// run plays a machine till it is over, or has waited so many times, or, from 0 on, has asked so many times: its last step, and all that it wanted.
func (w town) run(t *testing.T, u *Unsplice, ticks, most int) (api.Step, []api.Step) {
	t.Helper()
	var way []api.Step
	if w.seen[u] == nil {
		w.seen[u] = &watch{me: u.me}
	}
	m := w.seen[u]
	for range 10000 {
		x := u.Next()
		if x.Kind == api.SWait && ticks > 0 {
			way = append(way, x)
			m.sees(t, x, api.Answer{})
			ticks--
			u.Wake()
			continue
		}
		if x.Kind != api.SAsk || most == 0 {
			return x, way
		}
		most--
		way = append(way, x)
		a := w.ask(t, x.To, x.Ask)
		m.sees(t, x, a)
		u.Tell(a)
	}
	t.Fatal("it does not end")
	return api.Step{}, nil
}

// records are those of all peers, by their IDs; of none there is no row.
func (w town) records() map[int][]api.RecState {
	all := map[int][]api.RecState{}
	for id, p := range w.peers {
		if l := p.State().Recs; len(l) > 0 {
			all[id] = l
		}
	}
	return all
}

// free holds that no living one's lock is held, or waited for.
func (w town) free(t *testing.T) {
	t.Helper()
	for id, l := range w.records() {
		for _, r := range l {
			if !w.killed[id] && (r.Held || len(r.Waits) > 0) {
				t.Fatalf("of %d: %v", id, r)
			}
		}
	}
}

// besides is a list, as its members from the head on tell it: each one's ID.
func (w town) besides(t *testing.T, list api.Vec) []int {
	t.Helper()
	var l []int
	last := head(w.height)
	for last != tail(w.height) {
		a := w.must(t, last, api.Ask{Kind: api.QRead, W: list})
		b := w.must(t, a.Right, api.Ask{Kind: api.QRead, W: list})
		if b.Left != last || !below(last.Key, a.Right.Key) {
			t.Fatalf("%v to the right of %v, %v to its left", a.Right, last, b.Left)
		}
		last = a.Right
		l = append(l, last.ID)
	}
	return l[:len(l)-1]
}

// kinds are what was asked, of whom; a wait is 0 of nobody.
func kinds(way []api.Step) [][2]int {
	var l [][2]int
	for _, x := range way {
		l = append(l, [2]int{int(x.Ask.Kind), x.To.ID})
	}
	return l
}

// settings5 are those of 5, out of the list of no bits.
func settings5() api.UnspliceConf { return plain("", 0) }

// row5 is a town of height 0 with some keys; its members' IDs are 10 more.
func row5(t *testing.T, keys ...uint64) town {
	t.Helper()
	var l []api.Ref
	for _, k := range keys {
		l = append(l, ref(k, ""))
	}
	return found(t, 0, l...)
}

// The kinds of asks, as numbers.
const (
	qRead  = int(api.QRead)
	qLock  = int(api.QLock)
	qFree  = int(api.QFree)
	qRight = int(api.QRight)
	qLeft  = int(api.QLeft)
	qOut   = int(api.QOut)
)

// outOf is the whole way of 5 from between two.
func outOf(left, right int) [][2]int {
	return [][2]int{{qRead, 15}, {qLock, left}, {qLock, 15}, {qRight, left}, {qLeft, right}, {qOut, 15}, {qFree, left}}
}

// P14.3: between the ends, between two peers, at both sides: OK, in so many asks; the list is without it, and all else stands as it stood.
func TestOutOfRow(t *testing.T) {
	for _, x := range []struct {
		keys        []uint64
		left, right int
	}{
		{[]uint64{5}, 0, 1},
		{[]uint64{3, 5, 8}, 13, 18},
		{[]uint64{5, 8}, 0, 18},
		{[]uint64{3, 5}, 13, 1},
		{[]uint64{1, 2, 4, 5, 6, 9}, 14, 16},
	} {
		w := row5(t, x.keys...)
		end, way := w.run(t, begin(t, settings5()), 0, -1)
		if !same(end, over(api.OK)) || !slices.Equal(kinds(way), outOf(x.left, x.right)) {
			t.Fatalf("among %v: %v by %v", x.keys, end, kinds(way))
		}
		without := row5(t, slices.DeleteFunc(x.keys, func(k uint64) bool { return k == 5 })...)
		if got, want := w.records(), without.records(); !reflect.DeepEqual(got, want) {
			t.Fatalf("%v; not %v", got, want)
		}
	}
}

// P14.3: of one that is in no list: OK, in one ask, and nothing is changed; so a second time.
func TestOutOfNone(t *testing.T) {
	w := row5(t, 3, 8)
	w.come(t, ref(5, ""))
	before := w.records()
	end, way := w.run(t, begin(t, settings5()), 0, -1)
	if !same(end, over(api.OK)) || !slices.Equal(kinds(way), [][2]int{{qRead, 15}}) || !reflect.DeepEqual(before, w.records()) {
		t.Fatalf("%v by %v", end, kinds(way))
	}
	w = row5(t, 3, 5, 8)
	w.run(t, begin(t, settings5()), 0, -1)
	before = w.records()
	if end, way = w.run(t, begin(t, settings5()), 0, -1); !same(end, over(api.OK)) || len(way) != 1 || !reflect.DeepEqual(before, w.records()) {
		t.Fatalf("%v by %v", end, kinds(way))
	}
}

// P14.3: a marked one leaves as one that is not; joined, or not.
func TestOutMarked(t *testing.T) {
	w := row5(t, 3, 5, 8)
	w.must(t, ref(5, ""), api.Ask{Kind: api.QJoined})
	w.must(t, ref(5, ""), api.Ask{Kind: api.QMark})
	if end, way := w.run(t, begin(t, settings5()), 0, -1); !same(end, over(api.OK)) || !slices.Equal(kinds(way), outOf(13, 18)) {
		t.Fatalf("%v by %v", end, kinds(way))
	}
	if l := w.besides(t, v("")); !slices.Equal(l, []int{13, 18}) {
		t.Fatal(l)
	}
}

// P14.4: x is killed, before each of its asks: ErrDead, and no lock is held.
func TestKilledMe(t *testing.T) {
	for asked := range 8 {
		w := row5(t, 3, 5, 8)
		u := begin(t, settings5())
		w.run(t, u, 0, asked)
		w.killed[15] = true
		end, way := w.run(t, u, 0, -1)
		want := over(api.ErrDead)
		// Who was told that it is out is told no more.
		if asked > 5 {
			want = over(api.OK)
		}
		if !same(end, want) {
			t.Fatalf("killed behind %d asks: %v by %v", asked, end, kinds(way))
		}
		w.free(t)
	}
}

// P14.4: p is killed, before each ask: does it not have s to its right, x waits, and holds no lock, till it has another left side; does it, x leaves.
func TestKilledLeft(t *testing.T) {
	three, eight := ref(3, ""), ref(8, "")
	for asked := range 8 {
		w := row5(t, 2, 3, 5, 8)
		u := begin(t, settings5())
		w.run(t, u, 0, asked)
		w.killed[13] = true
		end, way := w.run(t, u, 3, -1)
		w.free(t)
		if asked > 3 {
			if a := w.will(t, 13, v("")); !same(end, over(api.OK)) || a.Right != eight {
				t.Fatalf("killed behind %d asks: %v by %v", asked, end, kinds(way))
			}
			continue
		}
		if a := w.will(t, 13, v("")); !same(end, waits()) || a.Right != ref(5, "") {
			t.Fatalf("killed behind %d asks: %v by %v", asked, end, kinds(way))
		}
		// Somebody mends 2's right side.
		two := ref(2, "")
		w.must(t, two, api.Ask{Kind: api.QLock, Owner: builder})
		w.must(t, two, api.Ask{Kind: api.QRight, Ref: ref(5, ""), Owner: builder})
		w.must(t, ref(5, ""), api.Ask{Kind: api.QLeft, Ref: two})
		w.must(t, two, api.Ask{Kind: api.QFree, Owner: builder})
		if end, way = w.run(t, u, 1, -1); !same(end, over(api.OK)) {
			t.Fatalf("killed behind %d asks: %v by %v", asked, end, kinds(way))
		}
		if l := w.besides(t, v("")); !slices.Equal(l, []int{12, 18}) {
			t.Fatalf("killed behind %d asks: %v, without %v", asked, l, three)
		}
		w.free(t)
	}
}

// P14.2, 4 and P14.4: p is killed, its answer lost, when it has s to its right: by its will x goes on, and leaves.
func TestKilledLeftThatDid(t *testing.T) {
	w := row5(t, 3, 5, 8)
	u := begin(t, settings5())
	x, _ := w.run(t, u, 0, 3)
	w.must(t, x.To, x.Ask)
	w.killed[13] = true
	end, way := w.run(t, u, 0, -1)
	if !same(end, over(api.OK)) || !slices.Equal(kinds(way), outOf(13, 18)[3:]) {
		t.Fatalf("%v by %v", end, kinds(way))
	}
	w.free(t)
	if a := w.must(t, ref(8, ""), api.Ask{Kind: api.QRead}); a.Left != ref(3, "") {
		t.Fatalf("beside 8: %v", a)
	}
}

// P14.3, P14.4: s is killed, before each ask: x leaves all the same, and p has it to its right.
func TestKilledRight(t *testing.T) {
	for asked := range 8 {
		w := row5(t, 3, 5, 8)
		u := begin(t, settings5())
		w.run(t, u, 0, asked)
		w.killed[18] = true
		if end, way := w.run(t, u, 0, -1); !same(end, over(api.OK)) {
			t.Fatalf("killed behind %d asks: %v by %v", asked, end, kinds(way))
		}
		if a := w.must(t, ref(3, ""), api.Ask{Kind: api.QRead}); a.Right != ref(8, "") {
			t.Fatalf("killed behind %d asks: beside 3: %v", asked, a)
		}
		if a := w.ask(t, ref(5, ""), api.Ask{Kind: api.QRead}); a.Kind != api.AGone {
			t.Fatalf("killed behind %d asks: 5: %v", asked, a)
		}
		w.free(t)
	}
}

// P14.2, 2 and 3: between its first ask and the others somebody stands in, or p leaves, or x's lock goes to another one that takes it out.
func TestOthersChange(t *testing.T) {
	three, four, five, eight := ref(3, ""), ref(4, ""), ref(5, ""), ref(8, "")
	w := row5(t, 3, 5, 8)
	u := begin(t, settings5())
	w.run(t, u, 0, 1)
	w.come(t, four)
	w.enter(t, v(""), three, four, five)
	end, way := w.run(t, u, 1, -1)
	if want := append([][2]int{{qLock, 13}, {qFree, 13}, {0, 0}}, outOf(14, 18)...); !same(end, over(api.OK)) || !slices.Equal(kinds(way), want) {
		t.Fatalf("%v by %v", end, kinds(way))
	}
	w = row5(t, 3, 4, 5, 8)
	u = begin(t, settings5())
	w.run(t, u, 0, 1)
	w.run(t, begin(t, api.UnspliceConf{Me: four, Owner: builder}), 0, -1)
	end, way = w.run(t, u, 1, -1)
	if want := append([][2]int{{qLock, 14}, {0, 0}}, outOf(13, 18)...); !same(end, over(api.OK)) || !slices.Equal(kinds(way), want) {
		t.Fatalf("%v by %v", end, kinds(way))
	}
	w = row5(t, 3, 5, 8)
	u = begin(t, settings5())
	w.run(t, u, 0, 2)
	w.must(t, five, api.Ask{Kind: api.QLock, Owner: builder})
	w.must(t, five, api.Ask{Kind: api.QOut, Owner: builder})
	end, way = w.run(t, u, 0, -1)
	if want := [][2]int{{qLock, 15}, {qFree, 13}}; !same(end, over(api.OK)) || !slices.Equal(kinds(way), want) {
		t.Fatalf("%v by %v", end, kinds(way))
	}
	w.free(t)
	// What x has to its right when it is locked holds, not what it had when it was read.
	w = row5(t, 3, 5, 8)
	u = begin(t, settings5())
	w.run(t, u, 0, 2)
	w.come(t, ref(6, ""))
	w.enter(t, v(""), five, ref(6, ""), eight)
	end, way = w.run(t, u, 0, -1)
	if !same(end, over(api.OK)) || !slices.Equal(kinds(way), outOf(13, 16)[2:]) || !slices.Equal(w.besides(t, v("")), []int{13, 16, 18}) {
		t.Fatalf("%v by %v", end, kinds(way))
	}
}

// drawn are so many members of a height, in an order of chance, with IDs in no order of their keys.
func drawn(d *draw, height, n int) []api.Ref {
	var l []api.Ref
	k := uint64(d.below(3))
	for i := range n {
		w := api.Vec{Len: height}
		for range height {
			w.Bits = w.Bits*2 + uint64(d.below(2))
		}
		l = append(l, api.Ref{Key: at(k), Vec: w})
		j := d.below(i + 1)
		l[i], l[j] = l[j], l[i]
		k += 1 + uint64(d.below(3))
	}
	for i := range l {
		l[i].ID = 2 + i
	}
	return l
}

// stands holds all records against those of the graph of some.
func (w town) stands(t *testing.T, l ...api.Ref) {
	t.Helper()
	states, e := graph.Records(w.height, l...)
	if e != api.OK {
		t.Fatalf("Records(%v): %d", l, e)
	}
	want := map[int][]api.RecState{}
	for _, x := range states {
		if len(x.Recs) > 0 {
			want[x.Me.ID] = x.Recs
		}
	}
	if got := w.records(); !reflect.DeepEqual(got, want) {
		t.Fatalf("of %v: %v; not %v", l, got, want)
	}
}

// others are the records of all lists but one.
func (w town) others(list api.Vec) map[int][]api.RecState {
	all := w.records()
	for id, l := range all {
		all[id] = slices.DeleteFunc(l, func(r api.RecState) bool { return r.W == list })
		if len(all[id]) == 0 {
			delete(all, id)
		}
	}
	return all
}

// P14.3, P14.5: peers go one by one, each out of all its lists, the highest first: behind each list all other lists stand as they stood, and behind each peer all stand as in the graph without it.
func TestOutMany(t *testing.T) {
	d := draw(5)
	for range 60 {
		height := d.below(5)
		l := drawn(&d, height, 1+d.below(14))
		w := found(t, height, l...)
		w.stands(t, l...)
		for i, me := range l {
			for level := height; level >= 0; level-- {
				c := api.UnspliceConf{W: first(me.Vec, level), Me: me, Owner: own}
				left, right, _ := graph.Beside(height, c.W, me.ID, l[i:]...)
				before := w.others(c.W)
				x, way := w.run(t, begin(t, c), 0, -1)
				if !same(x, over(api.OK)) || len(way) > 8 {
					t.Fatalf("%v among %v: %v by %v", c, l[i:], x, way)
				}
				a, b := w.must(t, left, api.Ask{Kind: api.QRead, W: c.W}), w.must(t, right, api.Ask{Kind: api.QRead, W: c.W})
				if a.Right != right || b.Left != left || slices.Contains(w.besides(t, c.W), me.ID) {
					t.Fatalf("%v among %v: %v, %v", c, l[i:], a, b)
				}
				if now := w.others(c.W); !reflect.DeepEqual(before, now) {
					t.Fatalf("%v among %v: %v; not %v", c, l[i:], now, before)
				}
			}
			w.stands(t, l[i+1:]...)
		}
	}
}
