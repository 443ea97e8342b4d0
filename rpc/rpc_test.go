package rpc

import (
	"bytes"
	"fmt"
	"math"
	"testing"

	"leapfrog/api"
	"leapfrog/msg"
)

func peer(n int) api.Addr  { return api.Addr{N: n} }
func agent(n int) api.Addr { return api.Addr{Agent: true, N: n} }

// addresses are peers and agents of numbers near and far: rpc takes any.
func addresses() []api.Addr {
	var l []api.Addr
	for _, n := range []int{0, 1, 2, 1023, 1024, -1, math.MinInt, math.MaxInt} {
		l = append(l, peer(n), agent(n))
	}
	return l
}

func at(n uint64) api.Key { return api.Key{Rank: api.RAt, N: n} }

// get is an ask of the shortest kind.
func get() api.Ask { return api.Ask{Kind: api.QGet} }

// rightAsks are asks of every kind that may be.
func rightAsks() []api.Ask {
	w := api.Vec{Len: 3, Bits: 5}
	low, high := api.Ref{Key: api.Key{Rank: api.RLow}}, api.Ref{ID: 1, Key: api.Key{Rank: api.RHigh}}
	some := api.Ref{ID: 7, Key: at(math.MaxUint64), Vec: api.Vec{Len: 32, Bits: 1<<32 - 1}}
	owner := api.Owner{Agent: math.MinInt, Op: math.MaxInt}
	return []api.Ask{
		{Kind: api.QRead}, {Kind: api.QRead, W: w}, get(), {Kind: api.QLock, W: w, Owner: owner}, {Kind: api.QFree, Owner: owner},
		{Kind: api.QRight, W: w, Ref: high, Owner: owner}, {Kind: api.QLeft, W: w, Ref: low}, {Kind: api.QRec, W: w, Ref: low, Ref2: some, Owner: owner},
		{Kind: api.QOut, W: w}, {Kind: api.QMark}, {Kind: api.QJoined},
	}
}

// wrongAsks are asks that may not be.
func wrongAsks() []api.Ask {
	return []api.Ask{
		{}, {Kind: 11}, {Kind: -1}, {Kind: math.MaxInt}, {Kind: api.QRead, W: api.Vec{Len: 33}}, {Kind: api.QRead, W: api.Vec{Bits: 1}},
		{Kind: api.QGet, W: api.Vec{Len: 1}}, {Kind: api.QMark, Owner: api.Owner{Op: 1}}, {Kind: api.QLeft}, {Kind: api.QRight, Ref: api.Ref{ID: 1}},
		{Kind: api.QRec, Ref: api.Ref{Key: at(1)}}, {Kind: api.QRead, Ref: api.Ref{Key: at(1)}},
	}
}

// rightAnswers are answers of every kind that may be.
func rightAnswers() []api.Answer {
	some := api.Ref{ID: 7, Key: at(9), Vec: api.Vec{Len: 2, Bits: 1}}
	return []api.Answer{
		{Kind: api.AOK}, {Kind: api.AOK, Marked: true, Left: some, Right: some, Value: []byte("value")}, {Kind: api.AOK, Value: []byte{}},
		{Kind: api.AOK, Value: bytes.Repeat([]byte("v"), 1024)}, {Kind: api.AGone}, {Kind: api.ADead}, {Kind: api.ADead, Marked: true, Right: some}, {Kind: api.ANo},
	}
}

// wrongAnswers are answers that may not be.
func wrongAnswers() []api.Answer {
	return []api.Answer{
		{}, {Kind: 5}, {Kind: -1}, {Kind: math.MaxInt}, {Kind: api.AOK, Value: make([]byte, 1025)}, {Kind: api.AOK, Left: api.Ref{ID: 1}},
		{Kind: api.ADead, Value: []byte("v")}, {Kind: api.AGone, Marked: true}, {Kind: api.ANo, Right: api.Ref{Key: at(1)}},
	}
}

// request is a packet with an ask, back one with an answer.
func request(from, to api.Addr, id int) api.Packet {
	return api.Packet{From: from, To: to, ID: id, Ask: get()}
}

func back(from, to api.Addr, id int) api.Packet {
	return api.Packet{Reply: true, From: from, To: to, ID: id, Answer: api.Answer{Kind: api.AOK}}
}

// isZero tells whether a packet is that of an answer that has none.
func isZero(p api.Packet) bool { return msg.Same(p, api.Packet{}) }

// sameAll tells whether two lists of packets are alike.
func sameAll(l, m []api.Packet) bool {
	for i := range min(len(l), len(m)) {
		if !msg.Same(l[i], m[i]) {
			return false
		}
	}
	return len(l) == len(m)
}

// ids are the IDs of packets, to be read.
func ids(l []api.Packet) string {
	n := []int{}
	for _, p := range l {
		n = append(n, p.ID)
	}
	return fmt.Sprint(n)
}

// spoil writes over a list that was answered, and over what may stand behind it.
func spoil(l []api.Packet) {
	l = l[:cap(l)]
	for i := range l {
		l[i] = back(peer(-9), peer(-9), -9)
	}
}

// spoilBytes writes over bytes, and over what may stand behind them.
func spoilBytes(b []byte) {
	b = b[:cap(b)]
	for i := range b {
		b[i] = '!'
	}
}

// row is bytes that a number makes.
func row(length int, seed uint64) []byte {
	b := make([]byte, length)
	for i := range b {
		seed = seed*6364136223846793005 + 1442695040888963407
		b[i] = byte(seed >> 33)
	}
	return b
}

// asked is by what a test knows a request: its caller, and its ID.
type asked struct {
	from api.Addr
	id   int
}

// town is callers and answerers, and the packets between them.
type town struct {
	t         *testing.T
	callers   map[api.Addr]*Caller
	answerers map[api.Addr]*Answerer
	way       []api.Packet
	again     int
	asks      map[asked]api.Packet
	new       map[asked]int
	gave      map[asked]api.Answer
	told      map[asked]int
}

func newTown(t *testing.T, again int) *town {
	w := &town{t: t, callers: map[api.Addr]*Caller{}, answerers: map[api.Addr]*Answerer{}, again: again,
		asks: map[asked]api.Packet{}, new: map[asked]int{}, gave: map[asked]api.Answer{}, told: map[asked]int{}}
	// One address has both a caller and an answerer: a packet is one or the other's, by what it is.
	for _, a := range []api.Addr{agent(0), agent(1), peer(1)} {
		c, e := NewCaller(a, again)
		if e != api.OK {
			t.Fatal(e)
		}
		w.callers[a] = c
	}
	for _, a := range []api.Addr{peer(0), peer(1)} {
		w.answerers[a] = NewAnswerer(a)
	}
	return w
}

// caller and answerer are any of them, by a number.
func (w *town) caller(n int) *Caller {
	return w.callers[[]api.Addr{agent(0), agent(1), peer(1)}[n%3]]
}

func (w *town) answerer(n int) *Answerer {
	return w.answerers[peer(n%2)]
}

// ask lets a caller ask.
func (w *town) ask(n, k int) {
	p, e := w.caller(n).Ask(peer(k%2), rightAsks()[(n+k)%11])
	if e == api.ErrMany {
		return
	}
	if e != api.OK || p.ID > 1 && w.asks[asked{p.From, p.ID - 1}].ID == 0 {
		w.t.Errorf("Ask = %v, %d", p, e)
	}
	w.asks[asked{p.From, p.ID}] = p
	w.way = append(w.way, p)
}

// reply lets an answerer answer one of those that wait.
func (w *town) reply(n, k int) {
	l := w.answerer(n).Waits()
	if len(l) == 0 {
		return
	}
	p := l[k%len(l)]
	x := api.Answer{Kind: api.AOK, Value: []byte(fmt.Sprint(p.From, p.ID, n, k))}
	r, e := w.answerer(n).Reply(p.From, p.ID, x)
	if e != api.OK || !msg.SameAnswer(r.Answer, x) {
		w.t.Errorf("Reply to %v = %v, %d", p, r, e)
	}
	w.gave[asked{p.From, p.ID}] = x
	w.way = append(w.way, r)
}

// come lets a packet come; what is told in return is on its way.
func (w *town) come(p api.Packet) {
	if c := w.callers[p.To]; c != nil {
		w.comeBack(c, p)
	}
	a := w.answerers[p.To]
	if a == nil {
		return
	}
	by := asked{p.From, p.ID}
	r, x := a.Take(p)
	switch {
	case p.Reply && x != api.HNone:
		w.t.Errorf("Take of a reply = %v, %d", r, x)
	case x == api.HNew:
		w.new[by]++
	case x == api.HAgain && !msg.SameAnswer(r.Answer, w.gave[by]):
		w.t.Errorf("Take of %v again = %v; Reply gave %v", p, r, w.gave[by])
	case x == api.HAgain:
		w.way = append(w.way, r)
	}
	if w.new[by] > 1 {
		w.t.Errorf("%v was new %d times", p, w.new[by])
	}
}

// comeBack lets a packet come to a caller.
func (w *town) comeBack(c *Caller, p api.Packet) {
	q, is := c.Take(p)
	if !is {
		return
	}
	by := asked{p.To, p.ID}
	w.told[by]++
	if !p.Reply || w.told[by] > 1 || !msg.Same(q, w.asks[by]) || !msg.SameAnswer(p.Answer, w.gave[by]) {
		w.t.Errorf("Take of %v = %v, time %d; asked %v, Reply gave %v", p, q, w.told[by], w.asks[by], w.gave[by])
	}
}

// take takes a packet off its way.
func (w *town) take(i int) api.Packet {
	p := w.way[i]
	w.way = append(w.way[:i:i], w.way[i+1:]...)
	return p
}

// do is a deed of three bytes: asks, replies, ticks, and packets that come, come twice, are lost or change places.
func (w *town) do(deed [3]byte) {
	n, k := int(deed[1]), int(deed[2])
	if len(w.way) > 0 {
		switch deed[0] % 8 {
		case 0, 1:
			w.come(w.take(n % len(w.way)))
			return
		case 2:
			w.come(w.way[n%len(w.way)])
			return
		case 3:
			w.take(n % len(w.way))
			return
		}
	}
	switch deed[0] % 8 {
	case 4:
		w.way = append(w.way, w.caller(n).Tick()...)
	case 5:
		w.reply(n, k)
	default:
		w.ask(n, k)
	}
}

// allComes lets a tick go by at every caller, and all that is sent come, and all that is told in return.
func (w *town) allComes() {
	for n := range 3 {
		w.way = append(w.way, w.caller(n).Tick()...)
	}
	for len(w.way) > 0 && !w.t.Failed() {
		w.come(w.take(0))
	}
}

// settled holds that each request that was answered was told, once.
func (w *town) settled() {
	for by := range w.gave {
		if w.told[by] != 1 {
			w.t.Errorf("again %d: %v was answered, and told %d times", w.again, by, w.told[by])
		}
	}
	for a, c := range w.callers {
		for _, p := range c.Open() {
			if _, is := w.gave[asked{a, p.ID}]; is {
				w.t.Errorf("%v was answered, and is open", p)
			}
		}
	}
}

// live plays deeds, and then lets all that is on its way be lost, and all that is sent from then on come.
func live(t *testing.T, again int, deeds []byte) {
	w := newTown(t, again)
	for i := 0; i+3 <= len(deeds) && !t.Failed(); i += 3 {
		w.do([3]byte(deeds[i:]))
	}
	w.way = nil
	for range again {
		w.allComes()
	}
	w.settled()
	// All that was asked has come by now: when it is answered, it is told in as many ticks.
	for n := range 2 {
		for len(w.answerer(n).Waits()) > 0 && !t.Failed() {
			w.reply(n, 0)
		}
	}
	w.way = nil
	for range again {
		w.allComes()
	}
	w.settled()
	for n := range 3 {
		if l := w.caller(n).Open(); len(l) != 0 {
			t.Errorf("again %d: open is %s", again, ids(l))
		}
	}
	for by, p := range w.asks {
		if w.new[by] != 1 || w.told[by] != 1 {
			t.Errorf("%v was new %d times, and told %d times", p, w.new[by], w.told[by])
		}
	}
}

// P6.5, P6.6: however packets are lost, doubled and reordered, each request is done once, and its answer comes once; it comes when no more are lost.
func TestOnceAndComes(t *testing.T) {
	for _, again := range []int{1, 2, 3, 7} {
		for seed := range uint64(15) {
			live(t, again, row(1800, seed*5+uint64(again)))
		}
	}
}

// P6.6: an answer that was lost comes within again ticks, whatever the request's age was; not within fewer, if it just went out.
func TestComesInTime(t *testing.T) {
	for _, again := range []int{1, 2, 5} {
		for age := range 3 * again {
			c, _ := NewCaller(agent(1), again)
			a := NewAnswerer(peer(2))
			p, _ := c.Ask(peer(2), get())
			a.Take(p)
			for range age {
				c.Tick()
			}
			a.Reply(agent(1), 1, api.Answer{Kind: api.ANo})
			ticks := 0
			for ; len(c.Open()) > 0 && ticks <= again; ticks++ {
				for _, q := range c.Tick() {
					r, x := a.Take(q)
					if told, is := c.Take(r); x != api.HAgain || !is || !msg.Same(told, p) {
						t.Errorf("Take of %v = %v, %d; told %v, %v", q, r, x, told, is)
					}
				}
			}
			if want := again - age%again; ticks != want {
				t.Errorf("again %d, age %d: told within %d ticks, not %d", again, age, ticks, want)
			}
		}
	}
}

// P6.5: a reply that is late, behind the End of its request, tells nothing, and another request goes on.
func TestLateReply(t *testing.T) {
	c, _ := NewCaller(agent(1), 1)
	a := NewAnswerer(peer(2))
	p, _ := c.Ask(peer(2), get())
	a.Take(p)
	r, _ := a.Reply(agent(1), 1, api.Answer{Kind: api.ANo})
	c.End(1)
	q, _ := c.Ask(peer(2), get())
	if told, is := c.Take(r); is || !isZero(told) {
		t.Errorf("Take = %v, %v", told, is)
	}
	if l := c.Open(); !sameAll(l, []api.Packet{q}) {
		t.Errorf("Open = %v", l)
	}
}

// The example of the document.
func TestExample(t *testing.T) {
	c, _ := NewCaller(agent(1), 2)
	p, e := c.Ask(peer(2), get())
	if p.ID != 1 || e != api.OK {
		t.Errorf("Ask = %v, %d", p, e)
	}
	if l, m := c.Tick(), c.Tick(); len(l) != 0 || !sameAll(m, []api.Packet{p}) {
		t.Errorf("Tick = %v, then %v", l, m)
	}
	r := back(peer(2), agent(1), 1)
	if q, is := c.Take(r); !is || !msg.Same(p, q) {
		t.Errorf("Take = %v, %v", q, is)
	}
	if q, is := c.Take(r); is || !isZero(q) {
		t.Errorf("Take = %v, %v", q, is)
	}
}

// P6.5, P6.6: whatever the deeds are.
func FuzzOnceAndComes(f *testing.F) {
	f.Add(byte(1), row(300, 1))
	f.Add(byte(4), row(300, 2))
	f.Fuzz(func(t *testing.T, again byte, deeds []byte) { live(t, int(again%8)+1, deeds) })
}
