package net

import (
	"bytes"
	"fmt"
	"math"
	"strings"
	"testing"

	"leapfrog/api"
)

func peer(n int) api.Addr  { return api.Addr{N: n} }
func agent(n int) api.Addr { return api.Addr{Agent: true, N: n} }

// rightNumbers are numbers of addresses that may be, wrongNumbers such as may not.
func rightNumbers() []int { return []int{0, 1, 2, 15, 16, 63, 64, 511, 1022, 1023} }
func wrongNumbers() []int {
	return []int{-1, -2, -1023, -1024, 1024, 1025, 2048, 4096, 1 << 32, 1<<32 + 5, math.MinInt, math.MaxInt}
}

// addresses are peers and agents of these numbers.
func addresses(numbers []int) []api.Addr {
	var l []api.Addr
	for _, n := range numbers {
		l = append(l, peer(n), agent(n))
	}
	return l
}

// load is a parcel whose bytes are a text.
func load(from, to api.Addr, s string) api.Parcel {
	return api.Parcel{From: from, To: to, B: []byte(s)}
}

// same tells whether two parcels are alike; nil and empty bytes are.
func same(p, q api.Parcel) bool {
	return p.From == q.From && p.To == q.To && bytes.Equal(p.B, q.B)
}

// brief is a parcel to be read in a test's report.
func brief(p api.Parcel) string {
	return fmt.Sprintf("%v>%v %d:%.20q", p.From, p.To, len(p.B), p.B)
}

// filled is a network in which these parcels were put.
func filled(t *testing.T, l ...api.Parcel) *Net {
	t.Helper()
	n := New()
	for _, p := range l {
		if e := n.Put(p); e != api.OK {
			t.Fatalf("Put(%s): %d", brief(p), e)
		}
	}
	return n
}

// letters is a network with a parcel a letter, from peer 1 to agent 2.
func letters(t *testing.T, s string) *Net {
	t.Helper()
	n := New()
	for _, c := range strings.Split(s, "") {
		if e := n.Put(load(peer(1), agent(2), c)); e != api.OK {
			t.Fatalf("Put(%s): %d", c, e)
		}
	}
	return n
}

// holds holds that a network has just these parcels on their way, and these counts.
func holds(t *testing.T, n *Net, l []api.Parcel, s api.NetStats) {
	t.Helper()
	if n.Len() != len(l) {
		t.Errorf("Len = %d, not %d", n.Len(), len(l))
	}
	for i, p := range l {
		if q, e := n.At(i); !same(p, q) || e != api.OK {
			t.Errorf("At(%d) = %s, %d; not %s", i, brief(q), e, brief(p))
		}
	}
	for _, i := range outside(len(l)) {
		if q, e := n.At(i); !same(q, api.Parcel{}) || e != 5 {
			t.Errorf("At(%d) of %d = %s, %d", i, len(l), brief(q), e)
		}
	}
	if got := n.Stats(); got != s {
		t.Errorf("Stats = %+v, not %+v", got, s)
	}
}

// reads holds that a network of letters has just these on their way, and these counts.
func reads(t *testing.T, n *Net, s string, stats api.NetStats) {
	t.Helper()
	var l []api.Parcel
	for _, c := range s {
		l = append(l, load(peer(1), agent(2), string(c)))
	}
	holds(t, n, l, stats)
}

// outside are places at which a network of that length has no parcel.
func outside(length int) []int {
	return []int{length, length + 1, -1, -2, -length - 1, 1 << 32, math.MaxInt, math.MinInt}
}

// P5.1: addresses of peers and of agents, at and beyond their bounds.
func TestCheck(t *testing.T) {
	for _, a := range addresses(rightNumbers()) {
		if e := Check(a); e != api.OK {
			t.Errorf("Check(%v): %d", a, e)
		}
	}
	for _, a := range addresses(wrongNumbers()) {
		if e := Check(a); e != 50 {
			t.Errorf("Check(%v): %d", a, e)
		}
	}
}

// P5.1: what is put is the last one, and counted.
func TestPut(t *testing.T) {
	n := New()
	holds(t, n, nil, api.NetStats{})
	var l []api.Parcel
	for i, from := range addresses(rightNumbers()) {
		for k, to := range addresses(rightNumbers()) {
			p := load(from, to, fmt.Sprint(i, k))
			if e := n.Put(p); e != api.OK {
				t.Errorf("Put(%s): %d", brief(p), e)
			}
			l = append(l, p)
			if q, e := n.At(len(l) - 1); !same(p, q) || e != api.OK {
				t.Errorf("the last one is %s, %d; not %s", brief(q), e, brief(p))
			}
		}
	}
	holds(t, n, l, api.NetStats{Put: len(l)})
}

// P5.1: a parcel with an address that may not be is not put, and counted nowhere.
func TestPutAddress(t *testing.T) {
	n := letters(t, "ab")
	for _, wrong := range addresses(wrongNumbers()) {
		for _, a := range addresses([]int{0, 1023, 1024, -1}) {
			if e := n.Put(load(wrong, a, "x")); e != 50 {
				t.Errorf("Put from %v: %d", wrong, e)
			}
			if e := n.Put(load(a, wrong, "x")); e != 50 {
				t.Errorf("Put to %v: %d", wrong, e)
			}
		}
	}
	reads(t, n, "ab", api.NetStats{Put: 2})
}

// P5.1: how many bytes a parcel has at most; none are as good as any.
func TestPutBytes(t *testing.T) {
	n := New()
	var l []api.Parcel
	for _, b := range [][]byte{nil, {}, {0}, []byte("b"), bytes.Repeat([]byte("x"), 65537), make([]byte, 1<<18-1), bytes.Repeat([]byte{255}, 1<<18)} {
		p := api.Parcel{From: peer(3), To: peer(3), B: b}
		if e := n.Put(p); e != api.OK {
			t.Errorf("Put of %d bytes: %d", len(b), e)
		}
		l = append(l, p)
	}
	for _, length := range []int{1<<18 + 1, 1<<18 + 2, 1 << 19, 1<<20 + 1} {
		if e := n.Put(api.Parcel{B: make([]byte, length)}); e != 50 {
			t.Errorf("Put of %d bytes: %d", length, e)
		}
	}
	holds(t, n, l, api.NetStats{Put: len(l)})
	for _, p := range l {
		if q, e := n.Take(0); !same(p, q) || e != api.OK {
			t.Errorf("Take = %s, %d; not %s", brief(q), e, brief(p))
		}
	}
}

// full is a network with as many parcels as there may be, and these.
func full(t *testing.T) (*Net, []api.Parcel) {
	t.Helper()
	var l []api.Parcel
	for i := range 4096 {
		l = append(l, load(peer(i%1024), agent(i%7), fmt.Sprint(i)))
	}
	return filled(t, l...), l
}

// P5.1: a network that is full refuses, and counts it; first comes whether the parcel may be.
func TestPutFull(t *testing.T) {
	n, l := full(t)
	p := load(agent(1), agent(2), "one more")
	holds(t, n, l, api.NetStats{Put: 4096})
	for i := range 3 {
		if e := n.Put(p); e != 3 {
			t.Errorf("Put of one more: %d", e)
		}
		if s := n.Stats(); s != (api.NetStats{Put: 4096, Refused: i + 1}) {
			t.Errorf("Stats = %+v", s)
		}
	}
	for _, wrong := range []api.Parcel{load(peer(1024), peer(1), ""), load(peer(1), agent(-1), ""), {B: make([]byte, 1<<18+1)}} {
		if e := n.Put(wrong); e != 50 {
			t.Errorf("Put(%s): %d", brief(wrong), e)
		}
	}
	holds(t, n, l, api.NetStats{Put: 4096, Refused: 3})
	n.Twin(9)
	if e := n.Put(p); e != 3 {
		t.Errorf("Put behind Twin: %d", e)
	}
	if q, e := n.Take(4095); !same(q, l[4095]) || e != api.OK {
		t.Errorf("Take = %s, %d", brief(q), e)
	}
	l = append(l[:4095], p)
	if e := n.Put(p); e != api.OK {
		t.Errorf("Put behind Take: %d", e)
	}
	if e := n.Put(p); e != 3 {
		t.Errorf("Put of one more, again: %d", e)
	}
	holds(t, n, l, api.NetStats{Put: 4097, Delivered: 2, Refused: 5})
}

// P5.1, P5.2: what Drop and Cut make free in a network that is full may be filled again.
func TestFullAgain(t *testing.T) {
	n, l := full(t)
	p := load(peer(5), peer(6), "p")
	if e := n.Drop(0); e != api.OK {
		t.Errorf("Drop: %d", e)
	}
	if e, f := n.Put(p), n.Put(p); e != api.OK || f != 3 {
		t.Errorf("Put: %d, %d", e, f)
	}
	lost, e := n.Cut(agent(3))
	if lost != 585 || e != api.OK {
		t.Errorf("Cut = %d, %d", lost, e)
	}
	var rest []api.Parcel
	for _, q := range append(l[1:], p) {
		if q.To != agent(3) {
			rest = append(rest, q)
		}
	}
	for range lost {
		if e := n.Put(p); e != api.OK {
			t.Errorf("Put: %d", e)
		}
		rest = append(rest, p)
	}
	if e := n.Put(p); e != 3 {
		t.Errorf("Put: %d", e)
	}
	holds(t, n, rest, api.NetStats{Put: 4097 + 585, Dropped: 586, Refused: 2})
}

// P5.2: Take at the first, a middle and the last place, till nothing is left.
func TestTake(t *testing.T) {
	n := letters(t, "abcdef")
	for i, x := range []struct {
		at         int
		want, left string
	}{{0, "a", "bcdef"}, {4, "f", "bcde"}, {1, "c", "bde"}, {2, "e", "bd"}, {0, "b", "d"}, {0, "d", ""}} {
		if p, e := n.Take(x.at); !same(p, load(peer(1), agent(2), x.want)) || e != api.OK {
			t.Errorf("Take(%d) = %s, %d; not %s", x.at, brief(p), e, x.want)
		}
		reads(t, n, x.left, api.NetStats{Put: 6, Delivered: i + 1})
	}
	n.Put(load(peer(1), agent(2), "g"))
	reads(t, n, "g", api.NetStats{Put: 7, Delivered: 6})
}

// P5.2: Twin lets the parcel stay, however often it comes.
func TestTwin(t *testing.T) {
	n := letters(t, "abc")
	for i, at := range []int{0, 2, 1, 2, 2, 0} {
		if p, e := n.Twin(at); !same(p, load(peer(1), agent(2), "abc"[at:at+1])) || e != api.OK {
			t.Errorf("Twin(%d) = %s, %d", at, brief(p), e)
		}
		reads(t, n, "abc", api.NetStats{Put: 3, Delivered: i + 1})
	}
}

// P5.2: Drop at the first, a middle and the last place, till nothing is left.
func TestDrop(t *testing.T) {
	n := letters(t, "abcde")
	for i, x := range []struct {
		at   int
		left string
	}{{4, "abcd"}, {0, "bcd"}, {1, "bd"}, {1, "b"}, {0, ""}} {
		if e := n.Drop(x.at); e != api.OK {
			t.Errorf("Drop(%d): %d", x.at, e)
		}
		reads(t, n, x.left, api.NetStats{Put: 5, Dropped: i + 1})
	}
}

// P5.2: Swap of the first and the last place, of neighbours, of a place with itself; it counts nothing.
func TestSwap(t *testing.T) {
	n := letters(t, "abcd")
	for _, x := range []struct {
		i, k int
		want string
	}{{0, 3, "dbca"}, {3, 0, "abcd"}, {1, 2, "acbd"}, {0, 1, "cabd"}, {3, 2, "cadb"}, {0, 0, "cadb"}, {3, 3, "cadb"}, {2, 2, "cadb"}} {
		if e := n.Swap(x.i, x.k); e != api.OK {
			t.Errorf("Swap(%d, %d): %d", x.i, x.k, e)
		}
		reads(t, n, x.want, api.NetStats{Put: 4})
	}
}

// P5.2: at a place that is none's nothing is done or counted, in networks of no parcels, of one and of some.
func TestPlaces(t *testing.T) {
	for _, s := range []string{"", "a", "abc"} {
		n := letters(t, s)
		for _, i := range outside(len(s)) {
			if p, e := n.Take(i); !same(p, api.Parcel{}) || e != 5 {
				t.Errorf("Take(%d) of %q = %s, %d", i, s, brief(p), e)
			}
			if p, e := n.Twin(i); !same(p, api.Parcel{}) || e != 5 {
				t.Errorf("Twin(%d) of %q = %s, %d", i, s, brief(p), e)
			}
			if e := n.Drop(i); e != 5 {
				t.Errorf("Drop(%d) of %q: %d", i, s, e)
			}
			for _, k := range []int{0, i, len(s) - 1} {
				if e, f := n.Swap(i, k), n.Swap(k, i); e != 5 || f != 5 {
					t.Errorf("Swap(%d, %d) of %q: %d, %d", i, k, s, e, f)
				}
			}
		}
		reads(t, n, s, api.NetStats{Put: len(s)})
	}
}

// mixed are parcels of which some are from peer 1, some to it, one both; agent 1 is another one.
func mixed() []api.Parcel {
	return []api.Parcel{
		load(peer(1), peer(2), "a"), load(peer(2), peer(1), "b"), load(agent(1), peer(2), "c"), load(peer(2), agent(1), "d"),
		load(peer(1), peer(1), "e"), load(peer(0), peer(2), "f"), load(peer(1), agent(1), "g"), load(agent(1), agent(1), "h"),
	}
}

// P5.2: Cut of addresses that nobody has, that some come from or go to, that one comes from and goes to.
func TestCut(t *testing.T) {
	for _, x := range []struct {
		a    api.Addr
		left string
	}{
		{peer(1), "cdfh"}, {agent(1), "abef"}, {peer(2), "egh"}, {peer(0), "abcdegh"},
		{agent(2), "abcdefgh"}, {agent(0), "abcdefgh"}, {peer(1023), "abcdefgh"}, {agent(1023), "abcdefgh"},
	} {
		n := filled(t, mixed()...)
		if lost, e := n.Cut(x.a); lost != 8-len(x.left) || e != api.OK {
			t.Errorf("Cut(%v) = %d, %d", x.a, lost, e)
		}
		var rest []api.Parcel
		for _, p := range mixed() {
			if strings.Contains(x.left, string(p.B)) {
				rest = append(rest, p)
			}
		}
		holds(t, n, rest, api.NetStats{Put: 8, Dropped: 8 - len(x.left)})
		if lost, e := n.Cut(x.a); lost != 0 || e != api.OK {
			t.Errorf("Cut(%v) again = %d, %d", x.a, lost, e)
		}
		holds(t, n, rest, api.NetStats{Put: 8, Dropped: 8 - len(x.left)})
	}
}

// P5.2: Cut at the bounds of addresses, of all that there are, of an empty network, and of an address that may not be.
func TestCutEdges(t *testing.T) {
	for _, a := range addresses(rightNumbers()) {
		n := filled(t, load(a, a, "x"), load(a, peer(7), "y"), load(agent(7), a, "z"))
		if lost, e := n.Cut(a); lost != 3 || e != api.OK {
			t.Errorf("Cut(%v) = %d, %d", a, lost, e)
		}
		if lost, e := n.Cut(a); lost != 0 || e != api.OK {
			t.Errorf("Cut(%v) = %d, %d", a, lost, e)
		}
		holds(t, n, nil, api.NetStats{Put: 3, Dropped: 3})
		n.Put(load(a, a, "again"))
		holds(t, n, []api.Parcel{load(a, a, "again")}, api.NetStats{Put: 4, Dropped: 3})
	}
	n := filled(t, mixed()...)
	for _, a := range addresses(wrongNumbers()) {
		if lost, e := n.Cut(a); lost != 0 || e != 50 {
			t.Errorf("Cut(%v) = %d, %d", a, lost, e)
		}
		if lost, e := New().Cut(a); lost != 0 || e != 50 {
			t.Errorf("Cut(%v) of none = %d, %d", a, lost, e)
		}
	}
	holds(t, n, mixed(), api.NetStats{Put: 8})
}

// P5.3: the places of those that go to an address, rising; those that come from it are not among them.
func TestTo(t *testing.T) {
	n := filled(t, mixed()...)
	for a, want := range map[api.Addr]string{
		peer(1): "[1 4]", peer(2): "[0 2 5]", agent(1): "[3 6 7]",
		peer(0): "[]", agent(2): "[]", agent(0): "[]", peer(1023): "[]", peer(1024): "[]", peer(-1): "[]", agent(math.MinInt): "[]",
	} {
		if got := fmt.Sprint(n.To(a)); got != want {
			t.Errorf("To(%v) = %s, not %s", a, got, want)
		}
		if l := New().To(a); len(l) != 0 {
			t.Errorf("To(%v) of none = %v", a, l)
		}
	}
	n.Swap(0, 6)
	n.Drop(2)
	if got := fmt.Sprint(n.To(peer(2)), n.To(agent(1))); got != "[4 5] [0 2 6]" {
		t.Errorf("To = %s", got)
	}
}

// P5.3: Len, At and Stats behind one deed of each kind.
func TestLook(t *testing.T) {
	n := letters(t, "abcde")
	reads(t, n, "abcde", api.NetStats{Put: 5})
	n.Take(4)
	reads(t, n, "abcd", api.NetStats{Put: 5, Delivered: 1})
	n.Twin(3)
	reads(t, n, "abcd", api.NetStats{Put: 5, Delivered: 2})
	n.Drop(0)
	reads(t, n, "bcd", api.NetStats{Put: 5, Delivered: 2, Dropped: 1})
	n.Swap(0, 1)
	reads(t, n, "cbd", api.NetStats{Put: 5, Delivered: 2, Dropped: 1})
	n.Cut(agent(2))
	reads(t, n, "", api.NetStats{Put: 5, Delivered: 2, Dropped: 4})
}

// plain is what a network is told to be: a row, and its counts.
type plain struct {
	row   []api.Parcel
	stats api.NetStats
	taken int
}

// without is the row but the parcel at a place.
func (w *plain) without(i int) (l []api.Parcel) {
	for k, p := range w.row {
		if k != i {
			l = append(l, p)
		}
	}
	return l
}

// put is Put of a parcel that may be.
func (w *plain) put(p api.Parcel) api.Errno {
	if len(w.row) == 4096 {
		w.stats.Refused++
		return 3
	}
	w.stats.Put++
	w.row = append(w.row, p)
	return 0
}

// cut is Cut of an address that may be.
func (w *plain) cut(a api.Addr) int {
	var l []api.Parcel
	for _, p := range w.row {
		if p.From == a || p.To == a {
			w.stats.Dropped++
		} else {
			l = append(l, p)
		}
	}
	lost := len(w.row) - len(l)
	w.row = l
	return lost
}

// at is what is at a place, and the error if there is nothing.
func (w *plain) at(i int) (api.Parcel, api.Errno) {
	if i < 0 || i >= len(w.row) {
		return api.Parcel{}, 5
	}
	return w.row[i], 0
}

// come is Take, and Twin if it is to stay.
func (w *plain) come(i int, stay bool) (api.Parcel, api.Errno) {
	p, e := w.at(i)
	if e == 0 {
		w.stats.Delivered++
	}
	if e == 0 && !stay {
		w.row = w.without(i)
		w.taken++
	}
	return p, e
}

// drop is Drop.
func (w *plain) drop(i int) api.Errno {
	_, e := w.at(i)
	if e == 0 {
		w.stats.Dropped++
		w.row = w.without(i)
	}
	return e
}

// swap is Swap.
func (w *plain) swap(i, k int) api.Errno {
	p, e := w.at(i)
	q, f := w.at(k)
	if e+f != 0 {
		return 5
	}
	w.row[i], w.row[k] = q, p
	return 0
}

// both do a deed, made of three bytes; it tells whether they answered alike.
func both(n *Net, w *plain, deed [3]byte) bool {
	i, k := int(deed[1])%12-1, int(deed[2])%12-1
	a := api.Addr{Agent: deed[1]&1 > 0, N: int(deed[1]>>1) % 3}
	b := api.Addr{Agent: deed[2]&1 > 0, N: int(deed[2]>>1) % 3}
	switch deed[0] % 11 {
	case 0, 1, 2, 3, 4:
		p := load(a, b, fmt.Sprint(w.stats.Put))
		return n.Put(p) == w.put(p)
	case 5:
		p, e := n.Take(i)
		q, f := w.come(i, false)
		return same(p, q) && e == f
	case 6:
		p, e := n.Twin(i)
		q, f := w.come(i, true)
		return same(p, q) && e == f
	case 7:
		return n.Drop(i) == w.drop(i)
	case 8:
		lost, e := n.Cut(a)
		return lost == w.cut(a) && e == 0
	case 9:
		// What may not be changes nothing.
		wrong := api.Addr{Agent: b.Agent, N: 1025 + k}
		lost, e := n.Cut(wrong)
		return n.Put(load(a, wrong, "")) == 50 && lost == 0 && e == 50
	}
	return n.Swap(i, k) == w.swap(i, k)
}

// alike holds that a network is as it is told to be, and that all of its parcels are told of.
func alike(t *testing.T, n *Net, w *plain) {
	t.Helper()
	holds(t, n, w.row, w.stats)
	for _, a := range addresses([]int{0, 1, 2, 3}) {
		var want []int
		for i, p := range w.row {
			if p.To == a {
				want = append(want, i)
			}
		}
		if got := n.To(a); fmt.Sprint(got) != fmt.Sprint(want) {
			t.Errorf("To(%v) = %v, not %v", a, got, want)
		}
	}
	if s := n.Stats(); s.Put != n.Len()+w.taken+s.Dropped {
		t.Errorf("%+v and %d on their way and %d taken: some are not told of", s, n.Len(), w.taken)
	}
}

// play does deeds, three bytes each, and holds the network against what it is told to be.
func play(t *testing.T, deeds []byte) {
	n, w := New(), &plain{}
	for i := 0; i+3 <= len(deeds) && !t.Failed(); i += 3 {
		deed := [3]byte(deeds[i:])
		if !both(n, w, deed) {
			t.Errorf("deed %v, number %d, is answered otherwise", deed, i/3)
		}
		alike(t, n, w)
	}
}

// row is bytes that a number makes.
func row(length int, seed uint64) []byte {
	b := make([]byte, length)
	for i := range b {
		seed = seed*6364136223846793005 + 1442695040888963407
		b[i] = byte(seed >> 33)
	}
	return b
}

// P5.2, P5.3, P5.4, P5.5: deeds in many orders, looked at behind each.
func TestDeeds(t *testing.T) {
	for seed := range uint64(60) {
		play(t, row(600, seed))
	}
}

// P5.4: how many were put is how many are on their way, taken and dropped; Twin takes none, and a refused one was not put.
func TestAllAreToldOf(t *testing.T) {
	n, _ := full(t)
	taken, twins, refused := 0, 0, 0
	for i := range 3000 {
		switch i % 5 {
		case 0, 1:
			if _, e := n.Take(i * 7 % n.Len()); e == api.OK {
				taken++
			}
		case 2:
			n.Twin(i % n.Len())
			twins++
		case 3:
			n.Drop(n.Len() - 1)
		case 4:
			for n.Put(load(peer(1), peer(2), "")) == api.OK {
			}
			refused++
		}
		s := n.Stats()
		if s.Put != n.Len()+taken+s.Dropped || s.Delivered != taken+twins || s.Refused != refused {
			t.Fatalf("%+v and %d on their way, %d taken, %d twins, %d refused", s, n.Len(), taken, twins, refused)
		}
	}
	n.Cut(peer(1))
	if s := n.Stats(); s.Put != n.Len()+taken+s.Dropped {
		t.Errorf("%+v and %d on their way, %d taken", s, n.Len(), taken)
	}
}

// P5.5: each that comes is one that was put, once by Take; nothing else comes, whatever order they come in.
func TestNothingElseComes(t *testing.T) {
	open := map[string]api.Parcel{}
	n := New()
	for i := range 300 {
		s := fmt.Sprint(i)
		p := load(addresses(rightNumbers())[i%20], addresses(rightNumbers())[i*3%20], s+strings.Repeat("-", i))
		open[string(p.B)] = p
		n.Put(p)
	}
	for i := range 300 {
		n.Swap(i*11%n.Len(), i*17%n.Len())
		p, e := n.Twin(i * 13 % n.Len())
		if q, there := open[string(p.B)]; !there || !same(p, q) || e != api.OK {
			t.Errorf("Twin = %s, %d", brief(p), e)
		}
		p, e = n.Take(i * 5 % n.Len())
		if q, there := open[string(p.B)]; !there || !same(p, q) || e != api.OK {
			t.Errorf("Take = %s, %d", brief(p), e)
		}
		delete(open, string(p.B))
	}
	if len(open) != 0 || n.Len() != 0 {
		t.Errorf("%d did not come, %d are on their way", len(open), n.Len())
	}
}

// P5.5: parcels that are alike are parcels each.
func TestAlikeParcels(t *testing.T) {
	p := load(peer(4), peer(4), "p")
	n := filled(t, p, p, p)
	n.Drop(1)
	n.Take(0)
	holds(t, n, []api.Parcel{p}, api.NetStats{Put: 3, Delivered: 1, Dropped: 1})
}

// P5.1, P5.2, P5.3: a Net that is nil, and one that New did not make, whatever else is wrong.
func TestNotMade(t *testing.T) {
	for name, n := range map[string]*Net{"nil": nil, "not made": {}, "new": new(Net)} {
		for _, p := range []api.Parcel{load(peer(1), peer(2), "p"), load(peer(-1), peer(2), ""), {}} {
			if e := n.Put(p); e != 4 {
				t.Errorf("%s: Put: %d", name, e)
			}
		}
		for _, i := range []int{0, -1, 1, math.MaxInt} {
			if p, e := n.Take(i); !same(p, api.Parcel{}) || e != 4 {
				t.Errorf("%s: Take = %s, %d", name, brief(p), e)
			}
			if p, e := n.Twin(i); !same(p, api.Parcel{}) || e != 4 {
				t.Errorf("%s: Twin = %s, %d", name, brief(p), e)
			}
			if p, e := n.At(i); !same(p, api.Parcel{}) || e != 4 {
				t.Errorf("%s: At = %s, %d", name, brief(p), e)
			}
			if e, f := n.Drop(i), n.Swap(i, 0); e != 4 || f != 4 {
				t.Errorf("%s: Drop: %d; Swap: %d", name, e, f)
			}
			if lost, e := n.Cut(peer(i)); lost != 0 || e != 4 {
				t.Errorf("%s: Cut = %d, %d", name, lost, e)
			}
			if l := n.To(peer(i)); len(l) != 0 {
				t.Errorf("%s: To = %v", name, l)
			}
		}
		if n.Len() != 0 || n.Stats() != (api.NetStats{}) {
			t.Errorf("%s: Len = %d, Stats = %+v", name, n.Len(), n.Stats())
		}
	}
}

// P5.5: what is handed in stays as it was, and is not kept.
func TestPutOwn(t *testing.T) {
	long := []byte("parcel and what is behind")
	n := New()
	p := api.Parcel{From: peer(1), To: peer(2), B: long[:6]}
	n.Put(p)
	n.Put(p)
	n.Take(0)
	if string(long) != "parcel and what is behind" || len(p.B) != 6 {
		t.Errorf("what was handed in is %q", long)
	}
	clear(long)
	holds(t, n, []api.Parcel{load(peer(1), peer(2), "parcel")}, api.NetStats{Put: 2, Delivered: 1})
}

// spoil writes over an answer, and over what may stand behind it.
func spoil(b []byte) {
	b = b[:cap(b)]
	for i := range b {
		b[i] = '!'
	}
}

// P5.5: an answer is new memory: nothing else changes with it.
func TestAnswersOwn(t *testing.T) {
	want := load(peer(1), agent(2), "parcel")
	n := filled(t, want, want, want)
	first, _ := n.At(0)
	second, _ := n.At(0)
	third, _ := n.Twin(0)
	fourth, _ := n.Twin(0)
	spoil(first.B)
	spoil(third.B)
	if !same(second, want) || !same(fourth, want) {
		t.Errorf("answers share their bytes: %s, %s", brief(second), brief(fourth))
	}
	holds(t, n, []api.Parcel{want, want, want}, api.NetStats{Put: 3, Delivered: 2})
	taken, _ := n.Take(0)
	spoil(taken.B)
	if !same(second, want) || !same(fourth, want) {
		t.Errorf("answers share their bytes: %s, %s", brief(second), brief(fourth))
	}
	holds(t, n, []api.Parcel{want, want}, api.NetStats{Put: 3, Delivered: 3})
	l, m := n.To(agent(2)), n.To(agent(2))
	clear(l[:cap(l)])
	if fmt.Sprint(m, n.To(agent(2))) != "[0 1] [0 1]" {
		t.Errorf("places are shared: %v, %v", m, n.To(agent(2)))
	}
}

// P5.5: networks share nothing with each other.
func TestNetsApart(t *testing.T) {
	n, m := letters(t, "ab"), letters(t, "cde")
	n.Swap(0, 1)
	m.Drop(1)
	New().Put(api.Parcel{})
	reads(t, n, "ba", api.NetStats{Put: 2})
	reads(t, m, "ce", api.NetStats{Put: 3, Dropped: 1})
}

// What left from the end is not kept behind it, where the row's memory still is.
func TestLeftNotKept(t *testing.T) {
	for _, leave := range []func(n *Net, i int){
		func(n *Net, i int) { n.Take(i) }, func(n *Net, i int) { n.Drop(i) },
	} {
		n := letters(t, "abc")
		memory := n.row
		leave(n, 2)
		leave(n, 1)
		if memory[0].B == nil || memory[1].B != nil || memory[2].B != nil {
			t.Errorf("kept behind the end: %s, %s", brief(memory[1]), brief(memory[2]))
		}
	}
}

// The example of the document.
func TestExample(t *testing.T) {
	n := letters(t, "abc")
	n.Swap(0, 2)
	if p, e := n.Take(0); string(p.B) != "c" || e != api.OK {
		t.Errorf("Take = %s, %d", brief(p), e)
	}
	if p, e := n.Twin(1); string(p.B) != "a" || e != api.OK {
		t.Errorf("Twin = %s, %d", brief(p), e)
	}
	if n.Len() != 2 || n.Stats().Delivered != 2 {
		t.Errorf("Len = %d, Stats = %+v", n.Len(), n.Stats())
	}
}

// P5.2 to P5.5: whatever the deeds are.
func FuzzDeeds(f *testing.F) {
	f.Add(row(90, 1))
	f.Add(row(90, 2))
	f.Fuzz(play)
}
