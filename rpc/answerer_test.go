package rpc

import (
	"math"
	"testing"

	"leapfrog/api"
	"leapfrog/msg"
)

// hearing is an answerer of peer 2 that heard so many requests of agent 1.
func hearing(t *testing.T, many int) *Answerer {
	t.Helper()
	a := NewAnswerer(peer(2))
	for i := range many {
		takes(t, a, request(agent(1), peer(2), i+1), api.HNew)
	}
	return a
}

// takes holds what a request is to an answerer, which has no reply to it.
func takes(t *testing.T, a *Answerer, p api.Packet, want api.Heard) {
	t.Helper()
	if r, x := a.Take(p); x != want || !isZero(r) {
		t.Errorf("Take(%v) = %v, %d; not %d", p, r, x, want)
	}
}

// replies holds that a request is answered, and that its reply comes again.
func replies(t *testing.T, a *Answerer, p api.Packet, x api.Answer) {
	t.Helper()
	want := api.Packet{Reply: true, From: p.To, To: p.From, ID: p.ID, Answer: x}
	if r, e := a.Reply(p.From, p.ID, x); e != api.OK || !msg.Same(r, want) {
		t.Errorf("Reply to %v = %v, %d; not %v", p, r, e, want)
	}
	takesAgain(t, a, p, x)
}

// takesAgain holds that the reply to a request is told, as often as it comes.
func takesAgain(t *testing.T, a *Answerer, p api.Packet, x api.Answer) {
	t.Helper()
	want := api.Packet{Reply: true, From: p.To, To: p.From, ID: p.ID, Answer: x}
	for range 2 {
		if r, h := a.Take(p); h != api.HAgain || !msg.Same(r, want) {
			t.Errorf("Take(%v) = %v, %d; not %v", p, r, h, want)
		}
	}
}

// refuses holds that there is no reply, and what is told instead.
func refuses(t *testing.T, a *Answerer, from api.Addr, id int, x api.Answer, want api.Errno) {
	t.Helper()
	if r, e := a.Reply(from, id, x); e != want || !isZero(r) {
		t.Errorf("Reply(%v, %d, %.60v) = %v, %d; not %d", from, id, x, r, e, want)
	}
}

// waits holds which requests wait, by their IDs, and how many were heard.
func waits(t *testing.T, a *Answerer, want string, heard int) {
	t.Helper()
	if got := ids(a.Waits()); got != want {
		t.Errorf("Waits = %s, not %s", got, want)
	}
	if a.Heard() != heard {
		t.Errorf("Heard = %d, not %d", a.Heard(), heard)
	}
}

// P6.3: a new answerer heard nothing; it is of any address, and hears of any, but what goes to itself alone.
func TestNewAnswerer(t *testing.T) {
	for _, me := range addresses() {
		a := NewAnswerer(me)
		if a == nil {
			t.Fatalf("NewAnswerer(%v) is nil", me)
		}
		waits(t, a, "[]", 0)
		heard := 0
		for _, from := range addresses() {
			for _, to := range addresses() {
				want := api.HNone
				if to == me {
					want = api.HNew
					heard++
				}
				takes(t, a, request(from, to, 1), want)
			}
		}
		if heard != len(addresses()) || a.Heard() != heard || len(a.Waits()) != heard {
			t.Errorf("%v heard %d, not %d", me, a.Heard(), heard)
		}
	}
}

// P6.3: a request is new once, then it waits, then its reply comes again; of every kind, with every answer.
func TestAnswererTake(t *testing.T) {
	a := NewAnswerer(peer(2))
	heard := 0
	for _, q := range rightAsks() {
		for _, x := range rightAnswers() {
			heard++
			p := request(agent(1), peer(2), heard)
			p.Ask = q
			takes(t, a, p, api.HNew)
			takes(t, a, p, api.HWait)
			takes(t, a, p, api.HWait)
			if l := a.Waits(); !sameAll(l, []api.Packet{p}) || a.Heard() != heard {
				t.Errorf("Waits = %v, Heard = %d; not %v, %d", l, a.Heard(), p, heard)
			}
			replies(t, a, p, x)
			waits(t, a, "[]", heard)
		}
	}
}

// P6.3: IDs at and beyond their bounds.
func TestAnswererIDs(t *testing.T) {
	a := NewAnswerer(peer(2))
	for _, id := range []int{1 << 62, 1, 1<<62 - 1, 1 << 32, 1<<32 + 1} {
		takes(t, a, request(agent(1), peer(2), id), api.HNew)
	}
	for _, id := range []int{0, -1, 1<<62 + 1, math.MinInt, math.MaxInt} {
		takes(t, a, request(agent(1), peer(2), id), api.HNone)
		refuses(t, a, agent(1), id, api.Answer{Kind: api.AOK}, 61)
	}
	waits(t, a, "[4611686018427387904 1 4611686018427387903 4294967296 4294967297]", 5)
}

// P6.3: the same ID from two addresses is two requests.
func TestAnswererTwoCallers(t *testing.T) {
	a := NewAnswerer(peer(2))
	first, second := request(agent(1), peer(2), 5), request(peer(1), peer(2), 5)
	second.Ask = api.Ask{Kind: api.QMark}
	takes(t, a, first, api.HNew)
	takes(t, a, second, api.HNew)
	takes(t, a, first, api.HWait)
	if l := a.Waits(); !sameAll(l, []api.Packet{first, second}) {
		t.Errorf("Waits = %v", l)
	}
	replies(t, a, first, api.Answer{Kind: api.ANo})
	takes(t, a, second, api.HWait)
	refuses(t, a, agent(1), 5, api.Answer{Kind: api.AOK}, 61)
	if l := a.Waits(); !sameAll(l, []api.Packet{second}) {
		t.Errorf("Waits = %v", l)
	}
	replies(t, a, second, api.Answer{Kind: api.AGone})
	takesAgain(t, a, first, api.Answer{Kind: api.ANo})
	waits(t, a, "[]", 2)
}

// P6.3: a request is known by its From and ID: with another ask it is the one that was heard.
func TestAnswererOtherAsk(t *testing.T) {
	a := hearing(t, 1)
	p := request(agent(1), peer(2), 1)
	other := p
	other.Ask = api.Ask{Kind: api.QMark}
	takes(t, a, other, api.HWait)
	if l := a.Waits(); !sameAll(l, []api.Packet{p}) {
		t.Errorf("Waits = %v", l)
	}
	replies(t, a, p, api.Answer{Kind: api.ANo})
	takesAgain(t, a, other, api.Answer{Kind: api.ANo})
}

// wrongRequests are packets, like the request 1 of agent 1, that peer 2 does not hear.
func wrongRequests() []api.Packet {
	right := request(agent(1), peer(2), 1)
	var l []api.Packet
	put := func(turn func(p *api.Packet)) {
		p := right
		turn(&p)
		l = append(l, p)
	}
	for _, to := range addresses() {
		if to != peer(2) {
			put(func(p *api.Packet) { p.To = to })
		}
	}
	for _, q := range wrongAsks() {
		put(func(p *api.Packet) { p.Ask = q })
	}
	for _, id := range []int{0, -1, 1<<62 + 1, math.MinInt} {
		put(func(p *api.Packet) { p.ID = id })
	}
	for _, x := range append(rightAnswers(), wrongAnswers()[1:]...) {
		put(func(p *api.Packet) { p.Answer = x })
		put(func(p *api.Packet) { p.Answer, p.Reply = x, true })
		put(func(p *api.Packet) { p.Answer, p.Ask, p.Reply = x, api.Ask{}, true })
	}
	put(func(p *api.Packet) { p.Reply = true })
	return append(l, api.Packet{})
}

// P6.3: a packet that may not be, a reply, and one to another address are nothing to it, whether their like was heard or not.
func TestAnswererTakeWrong(t *testing.T) {
	a := NewAnswerer(peer(2))
	none := func() {
		t.Helper()
		for _, p := range wrongRequests() {
			takes(t, a, p, api.HNone)
		}
	}
	none()
	waits(t, a, "[]", 0)
	p := request(agent(1), peer(2), 1)
	takes(t, a, p, api.HNew)
	none()
	waits(t, a, "[1]", 1)
	replies(t, a, p, api.Answer{Kind: api.ANo})
	none()
	waits(t, a, "[]", 1)
	takesAgain(t, a, p, api.Answer{Kind: api.ANo})
}

// P6.3, P6.4: MaxHeard requests, and one more: what was heard is heard, also then, and what was answered counts.
func TestAnswererMany(t *testing.T) {
	a := NewAnswerer(peer(2))
	many := func(i int) api.Packet { return request(agent(i%3), peer(2), i/3+1) }
	for i := range 65536 {
		takes(t, a, many(i), api.HNew)
		if i%2 == 0 {
			replies(t, a, many(i), api.Answer{Kind: api.ADead})
		}
		if a.Heard() != i+1 {
			t.Fatalf("Heard = %d, not %d", a.Heard(), i+1)
		}
	}
	more := func() {
		t.Helper()
		for i := 65536; i < 65546; i++ {
			takes(t, a, many(i), api.HNone)
			refuses(t, a, many(i).From, many(i).ID, api.Answer{Kind: api.AOK}, 61)
		}
		takes(t, a, request(peer(0), peer(2), 1), api.HNone)
	}
	more()
	var left []api.Packet
	for i := range 65536 {
		if i%2 == 0 {
			takesAgain(t, a, many(i), api.Answer{Kind: api.ADead})
		} else {
			takes(t, a, many(i), api.HWait)
			left = append(left, many(i))
		}
	}
	if !sameAll(a.Waits(), left) || a.Heard() != 65536 {
		t.Errorf("%d wait, %d were heard", len(a.Waits()), a.Heard())
	}
	for i := 1; i < 65536; i += 2 {
		replies(t, a, many(i), api.Answer{Kind: api.AGone})
	}
	more()
	waits(t, a, "[]", 65536)
}

// P6.4: Reply to what was never heard, to another's, and to what is answered; that comes ahead of an answer that may not be.
func TestReplyRefused(t *testing.T) {
	a := hearing(t, 2)
	p := request(agent(1), peer(2), 1)
	replies(t, a, p, api.Answer{Kind: api.AOK, Value: []byte("first")})
	for _, x := range append(rightAnswers(), wrongAnswers()...) {
		refuses(t, a, agent(1), 1, x, 61)
		for _, id := range []int{0, 3, -1, -2, 1 << 62, 1<<32 + 2, math.MinInt, math.MaxInt} {
			refuses(t, a, agent(1), id, x, 61)
		}
		for _, from := range []api.Addr{peer(1), agent(2), peer(2), agent(-1), {}} {
			refuses(t, a, from, 2, x, 61)
		}
	}
	takesAgain(t, a, p, api.Answer{Kind: api.AOK, Value: []byte("first")})
	waits(t, a, "[2]", 2)
}

// P6.4: with an answer that may not be the request waits on.
func TestReplyWrong(t *testing.T) {
	a := hearing(t, 2)
	p := request(agent(1), peer(2), 1)
	for _, x := range wrongAnswers() {
		refuses(t, a, agent(1), 1, x, 40)
		takes(t, a, p, api.HWait)
	}
	waits(t, a, "[1 2]", 2)
	replies(t, a, p, api.Answer{Kind: api.ANo})
	waits(t, a, "[2]", 2)
}

// P6.4: those that wait are told in the order in which they came, not by ID, and not by how often they come.
func TestWaits(t *testing.T) {
	a := NewAnswerer(peer(2))
	for _, id := range []int{5, 3, 9, 1, 1 << 62, 4} {
		takes(t, a, request(agent(1), peer(2), id), api.HNew)
	}
	waits(t, a, "[5 3 9 1 4611686018427387904 4]", 6)
	takes(t, a, request(agent(1), peer(2), 5), api.HWait)
	takes(t, a, request(agent(1), peer(2), 1), api.HWait)
	waits(t, a, "[5 3 9 1 4611686018427387904 4]", 6)
	for _, x := range []struct {
		id   int
		want string
	}{{9, "[5 3 1 4611686018427387904 4]"}, {4, "[5 3 1 4611686018427387904]"}, {5, "[3 1 4611686018427387904]"}} {
		replies(t, a, request(agent(1), peer(2), x.id), api.Answer{Kind: api.AOK})
		waits(t, a, x.want, 6)
	}
	takes(t, a, request(agent(1), peer(2), 2), api.HNew)
	waits(t, a, "[3 1 4611686018427387904 2]", 7)
}

// hold is a request that is told to be heard, and its reply, if it is answered.
type hold struct {
	p, reply api.Packet
}

// plainAnswerer is what an answerer of peer 2 is told to be.
type plainAnswerer struct {
	heard []hold
}

// find is the place of a request, or less than 0.
func (w *plainAnswerer) find(from api.Addr, id int) int {
	for i, h := range w.heard {
		if h.p.From == from && h.p.ID == id {
			return i
		}
	}
	return -1
}

func (w *plainAnswerer) take(p api.Packet) (api.Packet, api.Heard) {
	if msg.Check(p) != api.OK || p.Reply || p.To != peer(2) {
		return api.Packet{}, api.HNone
	}
	i := w.find(p.From, p.ID)
	if i < 0 {
		w.heard = append(w.heard, hold{p: p})
		return api.Packet{}, api.HNew
	}
	if !w.heard[i].reply.Reply {
		return api.Packet{}, api.HWait
	}
	return w.heard[i].reply, api.HAgain
}

func (w *plainAnswerer) reply(from api.Addr, id int, x api.Answer) (api.Packet, api.Errno) {
	i := w.find(from, id)
	if i < 0 || w.heard[i].reply.Reply {
		return api.Packet{}, 61
	}
	if msg.CheckAnswer(x) != api.OK {
		return api.Packet{}, 40
	}
	w.heard[i].reply = api.Packet{Reply: true, From: peer(2), To: from, ID: id, Answer: x}
	return w.heard[i].reply, 0
}

func (w *plainAnswerer) waits() []api.Packet {
	var l []api.Packet
	for _, h := range w.heard {
		if !h.reply.Reply {
			l = append(l, h.p)
		}
	}
	return l
}

// bothAnswer do a deed, made of three bytes; it tells whether they answered alike.
func bothAnswer(a *Answerer, w *plainAnswerer, deed [3]byte) bool {
	from, id := addresses()[deed[1]%5], int(deed[2])%25
	switch deed[0] % 4 {
	case 0, 1:
		p := request(from, peer(2), id)
		p.Ask = rightAsks()[deed[1]%11]
		r, x := a.Take(p)
		s, y := w.take(p)
		return msg.Same(r, s) && x == y
	case 2:
		l := wrongRequests()
		p := l[int(deed[2])%len(l)]
		r, x := a.Take(p)
		s, y := w.take(p)
		return msg.Same(r, s) && x == y
	}
	l := append(rightAnswers(), wrongAnswers()[:3]...)
	x := l[int(deed[0]>>2)%len(l)]
	r, e := a.Reply(from, id, x)
	s, f := w.reply(from, id, x)
	return msg.Same(r, s) && e == f
}

// playAnswerer does deeds, three bytes each, and holds the answerer against what it is told to be.
func playAnswerer(t *testing.T, deeds []byte) {
	a, w := NewAnswerer(peer(2)), &plainAnswerer{}
	for i := 0; i+3 <= len(deeds) && !t.Failed(); i += 3 {
		if deed := [3]byte(deeds[i:]); !bothAnswer(a, w, deed) {
			t.Errorf("deed %v, number %d, is answered otherwise", deed, i/3)
		}
		if !sameAll(a.Waits(), w.waits()) || a.Heard() != len(w.heard) {
			t.Errorf("Waits = %s, Heard = %d; not %s, %d", ids(a.Waits()), a.Heard(), ids(w.waits()), len(w.heard))
		}
	}
}

// P6.3, P6.4: deeds in many orders, looked at behind each.
func TestAnswererDeeds(t *testing.T) {
	for seed := range uint64(30) {
		playAnswerer(t, row(1500, seed))
	}
}

// P6.3, P6.4: an Answerer that is nil, and one that NewAnswerer did not make, whatever else is wrong.
func TestAnswererNotMade(t *testing.T) {
	for name, a := range map[string]*Answerer{"nil": nil, "not made": {}, "new": new(Answerer)} {
		for range 2 {
			for _, p := range append(wrongRequests(), request(agent(1), peer(2), 1), request(api.Addr{}, api.Addr{}, 1)) {
				if r, x := a.Take(p); x != api.HNone || !isZero(r) {
					t.Errorf("%s: Take = %v, %d", name, r, x)
				}
			}
			for _, x := range append(rightAnswers(), wrongAnswers()...) {
				if r, e := a.Reply(api.Addr{}, 1, x); e != 4 || !isZero(r) {
					t.Errorf("%s: Reply = %v, %d", name, r, e)
				}
			}
			if l := a.Waits(); len(l) != 0 || a.Heard() != 0 {
				t.Errorf("%s: Waits = %v, Heard = %d", name, l, a.Heard())
			}
		}
	}
}

// P6.3: what is handed in stays as it was, and is not kept: nor is the memory behind an empty value.
func TestAnswererTakeOwn(t *testing.T) {
	memory := []byte("behind")
	a := NewAnswerer(peer(2))
	p := request(agent(1), peer(2), 1)
	p.Answer.Value = memory[:0]
	takes(t, a, p, api.HNew)
	_ = append(a.Waits()[0].Answer.Value, "spoilt"...)
	if string(memory) != "behind" {
		t.Errorf("what was handed in is %q", memory)
	}
}

// P6.4: the answer that is handed in to Reply stays as it was, and is not kept.
func TestReplyOwn(t *testing.T) {
	memory := []byte("value and what is behind")
	a := hearing(t, 1)
	x := api.Answer{Kind: api.AOK, Value: memory[:5]}
	r, e := a.Reply(agent(1), 1, x)
	if e != api.OK || string(memory) != "value and what is behind" || len(x.Value) != 5 {
		t.Errorf("Reply: %d; what was handed in is %q", e, memory)
	}
	spoilBytes(memory)
	if string(r.Answer.Value) != "value" {
		t.Errorf("the reply is %v", r)
	}
	takesAgain(t, a, request(agent(1), peer(2), 1), api.Answer{Kind: api.AOK, Value: []byte("value")})
}

// P6.3, P6.4: an answer is new memory: nothing else changes with it.
func TestAnswererAnswersOwn(t *testing.T) {
	a := hearing(t, 3)
	l, m := a.Waits(), a.Waits()
	spoil(l)
	if got := ids(m) + ids(a.Waits()); got != "[1 2 3][1 2 3]" {
		t.Errorf("lists are shared: %s", got)
	}
	want := api.Answer{Kind: api.AOK, Value: []byte("value")}
	p := request(agent(1), peer(2), 2)
	first, _ := a.Reply(agent(1), 2, want)
	second, _ := a.Take(p)
	third, _ := a.Take(p)
	spoilBytes(first.Answer.Value)
	if string(second.Answer.Value)+string(third.Answer.Value) != "valuevalue" {
		t.Errorf("replies are shared: %v, %v", second, third)
	}
	spoilBytes(second.Answer.Value)
	if string(third.Answer.Value) != "value" {
		t.Errorf("replies are shared: %v", third)
	}
	takesAgain(t, a, p, want)
}

// P6.3: answerers share nothing with each other.
func TestAnswerersApart(t *testing.T) {
	a, b := hearing(t, 2), hearing(t, 3)
	replies(t, a, request(agent(1), peer(2), 1), api.Answer{Kind: api.ANo})
	waits(t, a, "[2]", 2)
	waits(t, b, "[1 2 3]", 3)
	takes(t, b, request(agent(1), peer(2), 1), api.HWait)
}

// P6.3, P6.4: whatever the deeds are.
func FuzzAnswerer(f *testing.F) {
	f.Add(row(90, 1))
	f.Add(row(90, 2))
	f.Fuzz(playAnswerer)
}
