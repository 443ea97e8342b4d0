package rpc

import (
	"fmt"
	"math"
	"testing"

	"leapfrog/api"
	"leapfrog/msg"
)

// made is a caller of agent 1.
func made(t *testing.T, again int) *Caller {
	t.Helper()
	c, e := NewCaller(agent(1), again)
	if c == nil || e != api.OK {
		t.Fatalf("NewCaller(%d) = %v, %d", again, c, e)
	}
	return c
}

// asking is a caller of agent 1 with so many requests to peer 2.
func asking(t *testing.T, again, many int) *Caller {
	t.Helper()
	c := made(t, again)
	for range many {
		mustAsk(t, c)
	}
	return c
}

// mustAsk is a request to peer 2.
func mustAsk(t *testing.T, c *Caller) api.Packet {
	t.Helper()
	p, e := c.Ask(peer(2), get())
	if e != api.OK {
		t.Fatalf("Ask: %d", e)
	}
	return p
}

// opens holds which requests are open.
func opens(t *testing.T, c *Caller, want string) {
	t.Helper()
	if got := ids(c.Open()); got != want {
		t.Errorf("Open = %s, not %s", got, want)
	}
}

// P6.1: again at and beyond its bounds; a new caller has no requests.
func TestNewCaller(t *testing.T) {
	for _, me := range addresses() {
		for _, again := range []int{1, 2, 3, 1<<20 - 1, 1 << 20} {
			c, e := NewCaller(me, again)
			if c == nil || e != api.OK {
				t.Fatalf("NewCaller(%v, %d) = %v, %d", me, again, c, e)
			}
			if len(c.Open()) != 0 || len(c.Tick()) != 0 {
				t.Errorf("NewCaller(%v, %d) has %v", me, again, c.Open())
			}
			if p, e := c.Ask(peer(3), get()); !msg.Same(p, request(me, peer(3), 1)) || e != api.OK {
				t.Errorf("Ask of %v = %v, %d", me, p, e)
			}
		}
		for _, again := range []int{0, -1, -1 << 20, 1<<20 + 1, 1 << 21, 1<<32 + 1, math.MinInt, math.MaxInt} {
			if c, e := NewCaller(me, again); c != nil || e != 60 {
				t.Errorf("NewCaller(%v, %d) = %v, %d", me, again, c, e)
			}
		}
	}
}

// P6.1: asks of every kind, to any address.
func TestAsk(t *testing.T) {
	c := made(t, 1)
	id := 0
	for _, to := range addresses() {
		for _, a := range rightAsks() {
			id++
			want := api.Packet{From: agent(1), To: to, ID: id, Ask: a}
			p, e := c.Ask(to, a)
			if !msg.Same(p, want) || e != api.OK || msg.Check(p) != api.OK {
				t.Errorf("Ask = %v, %d; not %v", p, e, want)
			}
			if l := c.Open(); len(l) == 0 || !msg.Same(l[len(l)-1], want) {
				t.Errorf("Open = %v, not %v at its end", l, want)
			}
			if id%100 == 0 {
				for i := range 100 {
					c.End(id - i)
				}
			}
		}
	}
}

// P6.1: an ask that may not be is refused, and takes no ID.
func TestAskWrong(t *testing.T) {
	c := asking(t, 1, 1)
	for _, to := range addresses() {
		for _, a := range wrongAsks() {
			if p, e := c.Ask(to, a); !isZero(p) || e != 40 {
				t.Errorf("Ask(%v, %v) = %v, %d", to, a, p, e)
			}
		}
	}
	opens(t, c, "[1]")
	if p := mustAsk(t, c); p.ID != 2 {
		t.Errorf("Ask = %v", p)
	}
}

// full holds that a caller takes no more requests, and that an ask that may not be is told first.
func full(t *testing.T, c *Caller) {
	t.Helper()
	before := c.Open()
	if len(before) != 256 {
		t.Errorf("%d are open", len(before))
	}
	for range 3 {
		if p, e := c.Ask(peer(2), get()); !isZero(p) || e != 3 {
			t.Errorf("Ask of one more = %v, %d", p, e)
		}
		if p, e := c.Ask(peer(2), api.Ask{}); !isZero(p) || e != 40 {
			t.Errorf("Ask of a wrong one = %v, %d", p, e)
		}
	}
	if !sameAll(c.Open(), before) {
		t.Errorf("Open = %s, not %s", ids(c.Open()), ids(before))
	}
}

// P6.1: MaxOpen requests, one more, and one behind an End or a reply; what is refused takes no ID.
func TestAskMany(t *testing.T) {
	c := asking(t, 1, 255)
	if p := mustAsk(t, c); p.ID != 256 {
		t.Errorf("the last one is %v", p)
	}
	full(t, c)
	if _, is := c.End(7); !is {
		t.Error("End")
	}
	if p := mustAsk(t, c); p.ID != 257 {
		t.Errorf("behind End: %v", p)
	}
	full(t, c)
	if _, is := c.Take(back(peer(2), agent(1), 256)); !is {
		t.Error("Take")
	}
	if p := mustAsk(t, c); p.ID != 258 {
		t.Errorf("behind Take: %v", p)
	}
	full(t, c)
	c.Tick()
	full(t, c)
}

// P6.1: behind MaxID requests there are no more; the errors that are named ahead of that come ahead.
func TestAskLast(t *testing.T) {
	c := made(t, 1)
	// So many requests can't be made in a test.
	c.last = 1<<62 - 256
	for range 256 {
		mustAsk(t, c)
	}
	full(t, c)
	l := c.Open()
	if l[0].ID != 1<<62-255 || l[255].ID != 1<<62 || !sameAll(c.Tick(), l) {
		t.Errorf("Open = %s", ids(l))
	}
	if p, is := c.Take(back(peer(2), agent(1), 1<<62)); !is || !msg.Same(p, l[255]) {
		t.Errorf("Take = %v, %v", p, is)
	}
	for range 3 {
		if p, e := c.Ask(peer(2), get()); !isZero(p) || e != 60 {
			t.Errorf("Ask = %v, %d", p, e)
		}
		if p, e := c.Ask(peer(2), api.Ask{}); !isZero(p) || e != 40 {
			t.Errorf("Ask = %v, %d", p, e)
		}
	}
	if !sameAll(c.Open(), l[:255]) {
		t.Errorf("Open = %s", ids(c.Open()))
	}
}

// P6.1: each ID is the last one's and 1, also behind requests that ended, and behind many.
func TestIDs(t *testing.T) {
	c := made(t, 3)
	for id := 1; id <= 2000; id++ {
		if p := mustAsk(t, c); p.ID != id {
			t.Fatalf("ID %d, not %d", p.ID, id)
		}
		switch id % 3 {
		case 0:
			c.End(id)
		case 1:
			c.Take(back(peer(2), agent(1), id))
		default:
			c.End(id - 30)
		}
	}
}

// P6.1: the open ones are told by ID, however many ended.
func TestOpen(t *testing.T) {
	c := made(t, 1)
	var want []api.Packet
	for i := range 250 {
		p, e := c.Ask(addresses()[i%16], rightAsks()[i%11])
		if e != api.OK {
			t.Fatalf("Ask: %d", e)
		}
		want = append(want, p)
	}
	for i := 0; len(want) > 0; i++ {
		if !sameAll(c.Open(), want) {
			t.Fatalf("Open = %s, not %s", ids(c.Open()), ids(want))
		}
		at := i * 7 % len(want)
		c.End(want[at].ID)
		want = append(want[:at:at], want[at+1:]...)
	}
	opens(t, c, "[]")
}

// P6.2: Take of a reply tells its request, once; the others stay.
func TestCallerTake(t *testing.T) {
	for _, x := range rightAnswers() {
		c := asking(t, 1, 3)
		want := c.Open()[1]
		r := back(peer(2), agent(1), 2)
		r.Answer = x
		if p, is := c.Take(r); !is || !msg.Same(p, want) {
			t.Errorf("Take(%v) = %v, %v", r, p, is)
		}
		opens(t, c, "[1 3]")
		for range 2 {
			if p, is := c.Take(r); is || !isZero(p) {
				t.Errorf("Take again = %v, %v", p, is)
			}
		}
		opens(t, c, "[1 3]")
	}
}

// P6.2: a reply comes from where its request went, to whom that came from, whoever these are.
func TestCallerTakeAddresses(t *testing.T) {
	for _, me := range addresses() {
		for _, to := range addresses() {
			c, _ := NewCaller(me, 1)
			p, _ := c.Ask(to, get())
			for _, x := range addresses() {
				if q, is := c.Take(back(x, me, 1)); x != to && (is || !isZero(q)) {
					t.Errorf("Take from %v = %v, %v; %v was asked", x, q, is, to)
				} else if x == to && (!is || !msg.Same(p, q)) {
					t.Errorf("Take from %v = %v, %v", x, q, is)
				}
			}
			p, _ = c.Ask(to, get())
			for _, x := range addresses() {
				if q, is := c.Take(back(to, x, 2)); x != me && (is || !isZero(q)) {
					t.Errorf("Take to %v = %v, %v; %v asked", x, q, is, me)
				} else if x == me && (!is || !msg.Same(p, q)) {
					t.Errorf("Take to %v = %v, %v", x, q, is)
				}
			}
		}
	}
}

// wrongBacks are packets to agent 1 that answer none of its requests 1 to 3 to peer 2.
func wrongBacks() []api.Packet {
	right := back(peer(2), agent(1), 2)
	var l []api.Packet
	put := func(turn func(p *api.Packet)) {
		p := right
		turn(&p)
		l = append(l, p)
	}
	for _, id := range []int{0, -1, -2, 4, 5, 1 << 62, 1<<62 + 1, 1<<32 + 2, math.MinInt, math.MaxInt} {
		put(func(p *api.Packet) { p.ID = id })
	}
	for _, a := range []api.Addr{agent(2), peer(1), peer(3), peer(-2), agent(1)} {
		put(func(p *api.Packet) { p.From = a })
	}
	for _, a := range []api.Addr{peer(1), agent(2), agent(0), agent(-1), peer(2)} {
		put(func(p *api.Packet) { p.To = a })
	}
	for _, x := range wrongAnswers() {
		put(func(p *api.Packet) { p.Answer = x })
	}
	for _, a := range append(rightAsks(), wrongAsks()[1:]...) {
		put(func(p *api.Packet) { p.Ask = a })
	}
	put(func(p *api.Packet) { p.Reply = false })
	put(func(p *api.Packet) { p.Reply, p.Ask, p.Answer = false, get(), api.Answer{} })
	put(func(p *api.Packet) { p.From, p.To = p.To, p.From })
	return append(l, api.Packet{}, request(agent(1), peer(2), 2))
}

// P6.2: Take of a packet that may not be, of a request, of one to or from another address, and of one that nobody waits for.
func TestCallerTakeWrong(t *testing.T) {
	c := asking(t, 1, 3)
	for _, p := range wrongBacks() {
		if q, is := c.Take(p); is || !isZero(q) {
			t.Errorf("Take(%v) = %v, %v", p, q, is)
		}
	}
	opens(t, c, "[1 2 3]")
	if p, is := c.Take(back(peer(2), agent(1), 2)); !is || p.ID != 2 {
		t.Errorf("Take = %v, %v", p, is)
	}
	for _, p := range append(wrongBacks(), back(peer(2), agent(1), 2)) {
		if q, is := c.Take(p); is || !isZero(q) {
			t.Errorf("behind a reply: Take(%v) = %v, %v", p, q, is)
		}
	}
	opens(t, c, "[1 3]")
}

// P6.2: End of an ID that is open, that ended, that was answered, and that never was.
func TestEnd(t *testing.T) {
	c := asking(t, 1, 4)
	want := c.Open()
	c.Take(back(peer(2), agent(1), 4))
	for _, id := range []int{2, 1, 3} {
		if p, is := c.End(id); !is || !msg.Same(p, want[id-1]) {
			t.Errorf("End(%d) = %v, %v", id, p, is)
		}
		for _, none := range []int{id, 0, -1, 4, 5, 6, 1<<32 + 1, 1<<32 + 3, math.MinInt, math.MaxInt} {
			before := ids(c.Open())
			if p, is := c.End(none); is || !isZero(p) {
				t.Errorf("End(%d) = %v, %v", none, p, is)
			}
			opens(t, c, before)
		}
	}
	opens(t, c, "[]")
	if p := mustAsk(t, c); p.ID != 5 {
		t.Errorf("Ask = %v", p)
	}
	if q, is := c.Take(back(peer(2), agent(1), 2)); is || !isZero(q) {
		t.Errorf("Take of one that ended = %v, %v", q, is)
	}
}

// P6.2: Tick tells those whose age is a multiple of again, by ID; they stay open.
func TestTick(t *testing.T) {
	c := made(t, 3)
	for i, x := range []struct {
		asks, end int
		want      string
	}{
		{2, 0, "[]"}, {1, 0, "[]"}, {0, 0, "[1 2]"}, {3, 0, "[3]"}, {0, 1, "[]"}, {1, 0, "[2 4 5 6]"},
		{0, 5, "[3]"}, {0, 0, "[7]"}, {0, 0, "[2 4 6]"}, {0, 7, "[3]"}, {0, 0, "[]"}, {0, 2, "[4 6]"}, {0, 3, "[]"}, {0, 0, "[]"}, {0, 0, "[4 6]"},
	} {
		for range x.asks {
			mustAsk(t, c)
		}
		c.End(x.end)
		before := c.Open()
		if got := ids(c.Tick()); got != x.want {
			t.Errorf("tick %d tells %s, not %s", i+1, got, x.want)
		}
		if !sameAll(c.Open(), before) {
			t.Errorf("tick %d: Open = %s, not %s", i+1, ids(c.Open()), ids(before))
		}
	}
}

// P6.2: what Tick tells is the request as it went out.
func TestTickTells(t *testing.T) {
	c := made(t, 1)
	for i, a := range rightAsks() {
		c.Ask(addresses()[i], a)
		if l := c.Tick(); len(l) != i+1 || !sameAll(l, c.Open()) {
			t.Errorf("Tick = %v, Open = %v", l, c.Open())
		}
	}
}

// P6.2: the greatest again: two requests, the second one asked when the first one goes out again.
func TestTickGreatest(t *testing.T) {
	c := asking(t, 1<<20, 1)
	told := ""
	for tick := 1; tick <= 1<<21+1; tick++ {
		if l := c.Tick(); len(l) > 0 {
			told += fmt.Sprint(tick) + ids(l)
		}
		if tick == 1<<20 {
			mustAsk(t, c)
		}
	}
	if want := "1048576[1]2097152[1 2]"; told != want {
		t.Errorf("ticks tell %s, not %s", told, want)
	}
}

// ageing is a request that is told to be open, and its age.
type ageing struct {
	p   api.Packet
	age int
}

// plainCaller is what a caller of agent 1 is told to be.
type plainCaller struct {
	again, last int
	open        []ageing
}

func (w *plainCaller) ask(to api.Addr, a api.Ask) (api.Packet, api.Errno) {
	if msg.CheckAsk(a) != api.OK {
		return api.Packet{}, 40
	}
	if len(w.open) == 256 {
		return api.Packet{}, 3
	}
	w.last++
	p := api.Packet{From: agent(1), To: to, ID: w.last, Ask: a}
	w.open = append(w.open, ageing{p: p})
	return p, 0
}

func (w *plainCaller) end(id int) (api.Packet, bool) {
	for i, x := range w.open {
		if x.p.ID == id {
			w.open = append(w.open[:i:i], w.open[i+1:]...)
			return x.p, true
		}
	}
	return api.Packet{}, false
}

func (w *plainCaller) take(p api.Packet) (api.Packet, bool) {
	for _, x := range w.open {
		if x.p.ID == p.ID && x.p.To == p.From && p.To == agent(1) && p.Reply && msg.Check(p) == api.OK {
			return w.end(p.ID)
		}
	}
	return api.Packet{}, false
}

func (w *plainCaller) tick() []api.Packet {
	var l []api.Packet
	for i := range w.open {
		w.open[i].age++
		if w.open[i].age%w.again == 0 {
			l = append(l, w.open[i].p)
		}
	}
	return l
}

func (w *plainCaller) all() []api.Packet {
	var l []api.Packet
	for _, x := range w.open {
		l = append(l, x.p)
	}
	return l
}

// both do a deed, made of three bytes; it tells whether they answered alike.
func both(c *Caller, w *plainCaller, deed [3]byte) bool {
	a := addresses()[deed[1]%16]
	id := w.last - int(deed[2])%12
	if deed[2]%16 == 15 {
		id = int(deed[1]) - 3
	}
	switch deed[0] % 8 {
	case 0, 1, 2:
		p, e := c.Ask(a, rightAsks()[deed[2]%11])
		q, f := w.ask(a, rightAsks()[deed[2]%11])
		return msg.Same(p, q) && e == f
	case 3:
		p, e := c.Ask(a, wrongAsks()[deed[2]%12])
		q, f := w.ask(a, wrongAsks()[deed[2]%12])
		return msg.Same(p, q) && e == f
	case 4:
		p, is := c.End(id)
		q, was := w.end(id)
		return msg.Same(p, q) && is == was
	case 5, 6:
		r := back(a, agent(1), id)
		if p := w.all(); len(p) > 0 && deed[1]%4 > 0 {
			r = back(p[int(deed[2])%len(p)].To, agent(1), p[int(deed[2])%len(p)].ID)
		}
		if deed[1]%16 == 1 {
			r.Answer.Kind = 9
		}
		p, is := c.Take(r)
		q, was := w.take(r)
		return msg.Same(p, q) && is == was
	}
	return sameAll(c.Tick(), w.tick())
}

// playCaller does deeds, three bytes each, and holds the caller against what it is told to be.
func playCaller(t *testing.T, again int, deeds []byte) {
	c, w := made(t, again), &plainCaller{again: again}
	for i := 0; i+3 <= len(deeds) && !t.Failed(); i += 3 {
		if deed := [3]byte(deeds[i:]); !both(c, w, deed) {
			t.Errorf("again %d: deed %v, number %d, is answered otherwise", again, deed, i/3)
		}
		if !sameAll(c.Open(), w.all()) {
			t.Errorf("Open = %s, not %s", ids(c.Open()), ids(w.all()))
		}
	}
}

// P6.1, P6.2: deeds in many orders, looked at behind each.
func TestCallerDeeds(t *testing.T) {
	for seed := range uint64(60) {
		playCaller(t, int(seed%9)+1, row(900, seed))
	}
}

// P6.1, P6.2: a Caller that is nil, and one that NewCaller did not make, whatever else is wrong.
func TestCallerNotMade(t *testing.T) {
	for name, c := range map[string]*Caller{"nil": nil, "not made": {}, "new": new(Caller)} {
		for range 2 {
			for _, a := range append(rightAsks(), wrongAsks()...) {
				if p, e := c.Ask(peer(2), a); !isZero(p) || e != 4 {
					t.Errorf("%s: Ask = %v, %d", name, p, e)
				}
			}
			for _, p := range append(wrongBacks(), back(peer(2), agent(1), 1), back(api.Addr{}, api.Addr{}, 1)) {
				if q, is := c.Take(p); is || !isZero(q) {
					t.Errorf("%s: Take = %v, %v", name, q, is)
				}
			}
			for _, id := range []int{0, 1, -1, math.MaxInt} {
				if p, is := c.End(id); is || !isZero(p) {
					t.Errorf("%s: End = %v, %v", name, p, is)
				}
			}
			if l, m := c.Tick(), c.Open(); len(l) != 0 || len(m) != 0 {
				t.Errorf("%s: Tick = %v, Open = %v", name, l, m)
			}
		}
	}
}

// P6.1, P6.2: an answer is new memory: nothing else changes with it.
func TestCallerAnswersOwn(t *testing.T) {
	c := asking(t, 1, 3)
	for _, list := range []func() []api.Packet{c.Tick, c.Open} {
		l, m := list(), list()
		spoil(l)
		if ids(m) != "[1 2 3]" {
			t.Errorf("lists are shared: %v", m)
		}
		opens(t, c, "[1 2 3]")
		if got := ids(c.Tick()); got != "[1 2 3]" {
			t.Errorf("Tick = %s", got)
		}
	}
}

// P6.2: what is handed in stays as it was.
func TestCallerTakeOwn(t *testing.T) {
	c := asking(t, 1, 1)
	value := []byte("value and what is behind")
	r := back(peer(2), agent(1), 1)
	r.Answer.Value = value[:5]
	if p, is := c.Take(r); !is || len(p.Answer.Value) != 0 || cap(p.Answer.Value) != 0 {
		t.Errorf("Take = %v, %v", p, is)
	}
	if string(value) != "value and what is behind" || len(r.Answer.Value) != 5 {
		t.Errorf("what was handed in is %q", value)
	}
}

// P6.1: callers share nothing with each other.
func TestCallersApart(t *testing.T) {
	c, d := asking(t, 2, 3), asking(t, 1, 2)
	c.End(2)
	if got := ids(c.Tick()) + ids(d.Tick()) + ids(c.Tick()); got != "[][1 2][1 3]" {
		t.Errorf("Tick tells %s", got)
	}
	d.Take(back(peer(2), agent(1), 1))
	opens(t, c, "[1 3]")
	opens(t, d, "[2]")
	if p, q := mustAsk(t, c), mustAsk(t, d); p.ID != 4 || q.ID != 3 {
		t.Errorf("Ask = %v, %v", p, q)
	}
}

// P6.1, P6.2: whatever the deeds are.
func FuzzCaller(f *testing.F) {
	f.Add(byte(1), row(90, 1))
	f.Add(byte(3), row(90, 2))
	f.Fuzz(func(t *testing.T, again byte, deeds []byte) { playCaller(t, int(again)+1, deeds) })
}
