package peer

import (
	"bytes"
	"slices"
	"testing"

	"leapfrog/api"
	"leapfrog/link"
	"leapfrog/msg"
	"leapfrog/vec"
)

// noted is a record as the document tells of it: who holds it stands first in its row, ahead of those that wait.
type noted struct {
	w           api.Vec
	left, right api.Ref
	row         []api.Owner
}

// late is an ask that waits, for a mark or for the lock of a list.
type late struct {
	ticket int
	ask    api.Ask
}

// sheet is a peer as a plain list of records and a plain list of asks that wait, in order.
type sheet struct {
	me             api.Ref
	value          []byte
	joined, marked bool
	recs           []noted
	waits          []late
}

func (s *sheet) isEnd() bool { return s.me.Key.Rank != api.RAt }

// newSheet has all records of an end, none of a peer.
func newSheet(me api.Ref, value []byte) *sheet {
	s := &sheet{me: me, value: value, joined: me.Key.Rank != api.RAt}
	for _, w := range vectors(me.Vec.Len) {
		switch me.Key.Rank {
		case api.RLow:
			s.recs = append(s.recs, noted{w: w, right: tail(me.Vec.Len)})
		case api.RHigh:
			s.recs = append(s.recs, noted{w: w, left: head(me.Vec.Len)})
		}
	}
	return s
}

// below is the order of keys, asked otherwise than package key does.
func below(x, y api.Key) bool {
	return x.Rank < y.Rank || x.Rank == y.Rank && x.N < y.N
}

func (s *sheet) find(w api.Vec) *noted {
	for i := range s.recs {
		if s.recs[i].w == w {
			return &s.recs[i]
		}
	}
	return nil
}

// its tells whether a list is one of a peer's.
func (s *sheet) its(w api.Vec) bool {
	return w.Len <= s.me.Vec.Len && s.me.Vec.Bits>>(s.me.Vec.Len-w.Len) == w.Bits
}

func mayOwn(o api.Owner) bool {
	return o.Agent >= 0 && o.Agent < 1024 && o.Op >= 1 && o.Op <= 1<<30
}

func holds(n *noted, o api.Owner) bool {
	return n != nil && len(n.row) > 0 && n.row[0] == o
}

func (s *sheet) told(n *noted) api.Answer {
	if n == nil {
		return api.Answer{Kind: api.AGone}
	}
	return api.Answer{Kind: api.AOK, Marked: s.marked, Left: n.left, Right: n.right}
}

// take takes those out of the row of waits that a call picks.
func (s *sheet) take(is func(x late) bool) []late {
	var out, stay []late
	for _, x := range s.waits {
		if is(x) {
			out = append(out, x)
		} else {
			stay = append(stay, x)
		}
	}
	s.waits = stay
	return out
}

// ask is what a peer is told to answer: at first to the ask itself, if it is answered.
func (s *sheet) ask(ticket int, q api.Ask) []api.Ready {
	n := s.find(q.W)
	ask := func(k api.AnswerKind) []api.Ready {
		return []api.Ready{{Ticket: ticket, Answer: api.Answer{Kind: k}}}
	}
	okIf := func(is bool) []api.Ready {
		if is {
			return ask(api.AOK)
		}
		return ask(api.ANo)
	}
	switch q.Kind {
	case api.QRead:
		return []api.Ready{{Ticket: ticket, Answer: s.told(n)}}
	case api.QGet:
		l := s.ask(ticket, api.Ask{Kind: api.QRead})
		if l[0].Answer.Kind == api.AOK {
			l[0].Answer.Value = s.value
		}
		return l
	case api.QLock:
		return s.lock(ticket, q, n)
	case api.QFree:
		return s.free(okIf(holds(n, q.Owner)), n)
	case api.QRight:
		is := holds(n, q.Owner) && below(s.me.Key, q.Ref.Key)
		if is {
			n.right = q.Ref
		}
		return okIf(is)
	case api.QLeft:
		if n == nil {
			return ask(api.AGone)
		}
		is := below(q.Ref.Key, s.me.Key)
		if is {
			n.left = q.Ref
		}
		return okIf(is)
	case api.QRec:
		is := s.its(q.W) && !s.isEnd() && n == nil && mayOwn(q.Owner) && below(q.Ref.Key, s.me.Key) && below(s.me.Key, q.Ref2.Key)
		if is {
			s.recs = append(s.recs, noted{w: q.W, left: q.Ref, right: q.Ref2, row: []api.Owner{q.Owner}})
		}
		return okIf(is)
	case api.QOut:
		return s.out(okIf(!s.isEnd() && holds(n, q.Owner)), q.W)
	case api.QMark:
		if !s.joined {
			s.waits = append(s.waits, late{ticket, q})
			return nil
		}
		return []api.Ready{{Ticket: ticket, Answer: s.mark()}}
	}
	return s.join(okIf(!s.isEnd()))
}

func (s *sheet) lock(ticket int, q api.Ask, n *noted) []api.Ready {
	switch {
	case n == nil || holds(n, q.Owner):
		return []api.Ready{{Ticket: ticket, Answer: s.told(n)}}
	case !mayOwn(q.Owner) || len(n.row) == 65 || slices.Contains(n.row, q.Owner):
		return []api.Ready{no(ticket)}
	}
	n.row = append(n.row, q.Owner)
	if len(n.row) == 1 {
		return []api.Ready{{Ticket: ticket, Answer: s.told(n)}}
	}
	s.waits = append(s.waits, late{ticket, q})
	return nil
}

func (s *sheet) free(l []api.Ready, n *noted) []api.Ready {
	if l[0].Answer.Kind != api.AOK {
		return l
	}
	n.row = slices.Clone(n.row[1:])
	if len(n.row) > 0 {
		for _, x := range s.take(func(x late) bool { return x.ask.Kind == api.QLock && x.ask.W == n.w && x.ask.Owner == n.row[0] }) {
			l = append(l, api.Ready{Ticket: x.ticket, Answer: s.told(n)})
		}
	}
	return l
}

func (s *sheet) out(l []api.Ready, w api.Vec) []api.Ready {
	if l[0].Answer.Kind != api.AOK {
		return l
	}
	s.recs = slices.DeleteFunc(s.recs, func(n noted) bool { return n.w == w })
	for _, x := range s.take(func(x late) bool { return x.ask.Kind == api.QLock && x.ask.W == w }) {
		l = append(l, gone(x.ticket))
	}
	return l
}

func (s *sheet) mark() api.Answer {
	if s.isEnd() || s.marked {
		return api.Answer{Kind: api.ANo}
	}
	s.marked = true
	return api.Answer{Kind: api.AOK, Value: s.value}
}

func (s *sheet) join(l []api.Ready) []api.Ready {
	if l[0].Answer.Kind != api.AOK {
		return l
	}
	s.joined = true
	for _, x := range s.take(func(x late) bool { return x.ask.Kind == api.QMark }) {
		l = append(l, api.Ready{Ticket: x.ticket, Answer: s.mark()})
	}
	return l
}

// state is how the peer stands; records by their lists' texts: those of shorter lists that begin alike stand ahead.
func (s *sheet) state() api.PeerState {
	first := newSheet(s.me, nil)
	texts := map[string]api.RecState{}
	var names []string
	for _, n := range s.recs {
		text, _ := vec.Text(n.w)
		if f := first.find(n.w); f != nil && f.left == n.left && f.right == n.right && len(n.row) == 0 {
			continue
		}
		name := text
		if text == "." {
			name = ""
		}
		names = append(names, name)
		texts[name] = rec(text, n.left, n.right, n.row...)
	}
	slices.Sort(names)
	l := api.PeerState{Me: s.me, Value: s.value, Joined: s.joined, Marked: s.marked}
	for _, name := range names {
		l.Recs = append(l.Recs, texts[name])
	}
	return l
}

func (s *sheet) open() []int {
	var l []int
	for _, x := range s.waits {
		l = append(l, x.ticket)
	}
	return l
}

// deck is what asks are drawn from.
type deck struct {
	lists  []api.Vec
	refs   []api.Ref
	owners []api.Owner
}

// deckOf has the peer's lists, some that are none of its, and others on both sides of it; of so many owners.
func deckOf(me api.Ref, many int) deck {
	k := deck{lists: slices.Collect(vec.Prefixes(me.Vec))}
	k.lists = append(k.lists, k.lists...)
	k.lists = append(k.lists, k.lists...)
	k.lists = append(k.lists, v("0"), v("01"), v("1"), v("11"), v("0000"))
	h := me.Vec.Len
	k.refs = []api.Ref{head(h), at(1), at(2), at(4), tail(h), at(6), at(8), at(9), me, at(5)}
	for i := range many {
		k.owners = append(k.owners, own(i%9, 1+i/9))
	}
	return k
}

func pick[T any](l []T, x byte) T { return l[int(x)%len(l)] }

// owner is one of the deck: at times one that may not be, and often who holds the record, lest most asks be refused.
func (k deck) owner(s *sheet, w api.Vec, x byte) api.Owner {
	if x%16 == 0 {
		return pick(wrongOwners(), x/16)
	}
	if n := s.find(w); x%16 < 10 && n != nil && len(n.row) > 0 {
		return n.row[0]
	}
	return pick(k.owners, x/3)
}

// draw makes an ask of five bytes; one in some is one that may not be.
func (k deck) draw(s *sheet, x [5]byte) api.Ask {
	w, r, r2 := pick(k.lists, x[1]), pick(k.refs, x[2]), pick(k.refs, x[3])
	o := k.owner(s, w, x[4])
	switch x[0] % 32 {
	case 0, 1:
		return readOf(w)
	case 2, 3:
		return get()
	case 4, 5, 6, 7, 8, 9:
		return api.Ask{Kind: api.QLock, W: w, Owner: pick(append(slices.Clone(k.owners), wrongOwners()[0]), x[4])}
	case 10, 11, 12, 13:
		return api.Ask{Kind: api.QFree, W: w, Owner: o}
	case 14, 15, 16:
		return api.Ask{Kind: api.QRight, W: w, Ref: r, Owner: o}
	case 17, 18, 19:
		return api.Ask{Kind: api.QLeft, W: w, Ref: r}
	case 20, 21, 22, 23, 24:
		// Most that are put stand between two that belong there.
		return api.Ask{Kind: api.QRec, W: w, Ref: pick(k.refs[:4], x[2]), Ref2: pick(k.refs[4:8], x[3]), Owner: o}
	case 25:
		return api.Ask{Kind: api.QRec, W: w, Ref: r, Ref2: r2, Owner: o}
	case 26, 27:
		return api.Ask{Kind: api.QOut, W: w, Owner: o}
	case 28, 29:
		return mark()
	case 30:
		// It joins late, so that some marks wait.
		if x[1]%4 > 0 {
			return get()
		}
		return joined()
	}
	return pick(wrongAsks(), x[1])
}

// log holds what was answered to which ticket.
type log struct {
	answered map[int]int
	marks    map[int]bool // the tickets of QMark
	won      int
}

// note holds P9.5 and P9.6: no ticket is answered twice, and of all marks one alone is AOK.
func (g *log) note(t *testing.T, l []api.Ready) {
	t.Helper()
	for _, r := range l {
		g.answered[r.Ticket]++
		if g.answered[r.Ticket] > 1 {
			t.Errorf("ticket %d is answered again: %+v", r.Ticket, r.Answer)
		}
		if g.marks[r.Ticket] && r.Answer.Kind == api.AOK {
			g.won++
		}
		if e := msg.CheckAnswer(r.Answer); e != api.OK {
			t.Errorf("the answer %+v may not be: %d", r.Answer, e)
		}
	}
	if g.won > 1 {
		t.Errorf("%d marks are AOK", g.won)
	}
}

// onSides holds P9.4: in all records that are told, and in all answers.
func onSides(t *testing.T, p *Peer) {
	t.Helper()
	s := p.State()
	for _, r := range s.Recs {
		left, right := below(r.Left.Key, s.Me.Key), below(s.Me.Key, r.Right.Key)
		if s.Me.Key.Rank == api.RLow {
			left = r.Left == api.Ref{}
		}
		if s.Me.Key.Rank == api.RHigh {
			right = r.Right == api.Ref{}
		}
		if !left || !right {
			t.Errorf("beside %v: %+v", s.Me, r)
		}
	}
}

// play asks, five bytes an ask, and holds the peer against its sheet; then it lets all be answered.
func play(t *testing.T, p *Peer, many int, alike bool, calls []byte) {
	me := p.State().Me
	s, k := newSheet(me, p.State().Value), deckOf(me, many)
	g := &log{answered: map[int]int{}, marks: map[int]bool{}}
	asked := 0
	both := func(q api.Ask) {
		ticket := asked
		if alike {
			ticket %= 3
		}
		asked++
		g.marks[ticket] = q.Kind == api.QMark
		got, e := p.Ask(ticket, q)
		if msg.CheckAsk(q) != api.OK {
			if e != 91 || len(got) != 0 {
				t.Errorf("Ask(%+v) = %+v, %d", q, got, e)
			}
			g.answered[ticket]++
			return
		}
		want := s.ask(ticket, q)
		if e != api.OK || !slices.EqualFunc(got, want, sameReady) {
			t.Errorf("%v: ask %d, %+v, is answered %+v, %d; not %+v", me, asked, q, got, e, want)
		}
		if !alike {
			g.note(t, got)
		}
	}
	for i := 0; i+5 <= len(calls) && !t.Failed(); i += 5 {
		both(k.draw(s, [5]byte(calls[i:])))
		against(t, p, s, k)
	}
	if t.Failed() {
		return
	}
	settle(both, s)
	against(t, p, s, k)
	open(t, p)
	for ticket := 0; !alike && ticket < asked; ticket++ {
		if g.answered[ticket] != 1 {
			t.Errorf("ticket %d is answered %d times", ticket, g.answered[ticket])
		}
	}
}

// settle gives each lock back, or leaves its list, in turn, and lets the peer have joined.
func settle(both func(q api.Ask), s *sheet) {
	for turn := 0; ; turn++ {
		i := slices.IndexFunc(s.recs, func(n noted) bool { return len(n.row) > 0 })
		if i < 0 {
			break
		}
		q := api.Ask{Kind: api.QFree, W: s.recs[i].w, Owner: s.recs[i].row[0]}
		if turn%3 == 2 && !s.isEnd() {
			q.Kind = api.QOut
		}
		both(q)
	}
	both(joined())
}

// against holds a peer against its sheet.
func against(t *testing.T, p *Peer, s *sheet, k deck) {
	t.Helper()
	stands(t, p, s.state())
	open(t, p, s.open()...)
	for _, w := range k.lists {
		var left, right api.Ref
		if n := s.find(w); n != nil {
			left, right = n.left, n.right
		}
		wills(t, p, w, s.marked, left, right)
	}
	onSides(t, p)
}

// row is bytes that a number makes.
func row(length int, seed uint64) []byte {
	b := make([]byte, length)
	for i := range b {
		seed = seed*6364136223846793005 + 1442695040888963407
		b[i] = byte(seed >> 33)
	}
	return b
}

// players make the peers that are played: some with few and with more lists, and both ends.
func players(t *testing.T) []func() *Peer {
	var l []func() *Peer
	for _, s := range []string{".", "1", "10", "0110"} {
		l = append(l, func() *Peer { return one(t, me(5, s), "value of "+s) })
	}
	for _, high := range []bool{false, true} {
		for _, height := range []int{0, 1, 3} {
			l = append(l, func() *Peer { return end(t, high, height) })
		}
	}
	return l
}

// P9.2 to P9.6: asks in many orders, looked at behind each; of few owners, and of more than may wait; with tickets that are alike, too.
func TestCalls(t *testing.T) {
	for seed := range uint64(12) {
		for _, player := range players(t) {
			for _, many := range []int{1, 2, 4, 90} {
				play(t, player(), many, seed%4 == 3, row(2000, seed))
			}
		}
	}
}

// P9.2 to P9.6: long rows of asks for few lists, so that many wait and no more may.
func TestCallsLong(t *testing.T) {
	for i, player := range players(t) {
		play(t, player(), 100, false, row(10000, uint64(100+i)))
	}
}

// What is answered hangs on what was asked alone: two peers of the same asks answer the same.
func TestAgain(t *testing.T) {
	for _, player := range players(t) {
		p, q := player(), player()
		s, k := newSheet(p.State().Me, p.State().Value), deckOf(p.State().Me, 5)
		calls := row(4000, 77)
		for i := 0; i+5 <= len(calls); i += 5 {
			ask := k.draw(s, [5]byte(calls[i:]))
			x, e := p.Ask(i, ask)
			y, f := q.Ask(i, ask)
			if e != f || !slices.EqualFunc(x, y, sameReady) || !slices.Equal(p.Open(), q.Open()) {
				t.Fatalf("Ask(%+v) = %+v, %d; and %+v, %d", ask, x, e, y, f)
			}
			if e == api.OK {
				s.ask(i, ask)
			}
		}
		if x, y := p.State(), q.State(); !slices.EqualFunc(x.Recs, y.Recs, link.Same) || !bytes.Equal(x.Value, y.Value) {
			t.Errorf("%+v, %+v", x, y)
		}
	}
}

// P9.2 to P9.6: whatever the asks are.
func FuzzCalls(f *testing.F) {
	f.Add(row(200, 1), byte(4), byte(2))
	f.Add(row(900, 2), byte(90), byte(6))
	f.Fuzz(func(t *testing.T, calls []byte, many, who byte) {
		play(t, pick(players(t), who)(), 1+int(many), many%2 > 0, calls[:min(len(calls), 2000)])
	})
}
