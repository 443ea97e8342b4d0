package link

import (
	"slices"
	"testing"

	"leapfrog/api"
	"leapfrog/key"
	"leapfrog/lock"
	"leapfrog/vec"
)

// noted is a record as a plain list has it: who holds it stands first in its row.
type noted struct {
	w           api.Vec
	left, right api.Ref
	row         []api.Owner
}

func (n noted) state() api.RecState {
	s := api.RecState{W: n.w, Left: n.left, Right: n.right}
	if len(n.row) > 0 {
		s.Held, s.Owner, s.Waits = true, n.row[0], slices.Clone(n.row[1:])
	}
	return s
}

// plain is what a table is told to be: records in a list; an end's are all there from the beginning on.
type plain struct {
	me   api.Ref
	recs []noted
}

func newPlain(me api.Ref) *plain {
	p := &plain{me: me}
	for _, w := range vectors(me.Vec.Len) {
		if me.Key.Rank != api.RAt {
			text, _ := vec.Text(w)
			f := firstOf(me, text)
			p.recs = append(p.recs, noted{w: w, left: f.Left, right: f.Right})
		}
	}
	return p
}

func (p *plain) find(w api.Vec) int {
	return slices.IndexFunc(p.recs, func(n noted) bool { return n.w == w })
}

// holds tells the error of one that is to hold a record.
func (p *plain) holds(i int, o api.Owner) api.Errno {
	if e := lock.Check(o); e != 0 {
		return e
	}
	if len(p.recs[i].row) == 0 || p.recs[i].row[0] != o {
		return 71
	}
	return 0
}

func below(x, y api.Key) bool {
	return key.Check(x) == 0 && key.Check(y) == 0 && key.Compare(x, y) == -1
}

func (p *plain) put(w api.Vec, left, right api.Ref, o api.Owner) api.Errno {
	switch {
	case p.me.Key.Rank != api.RAt || !vec.Begins(p.me.Vec, w):
		return 80
	case p.find(w) >= 0:
		return 81
	case !below(left.Key, p.me.Key) || !below(p.me.Key, right.Key):
		return 83
	case lock.Check(o) != 0:
		return 70
	}
	p.recs = append(p.recs, noted{w: w, left: left, right: right, row: []api.Owner{o}})
	return 0
}

func (p *plain) out(w api.Vec, o api.Owner) ([]api.Owner, api.Errno) {
	i := p.find(w)
	switch {
	case i < 0:
		return nil, 82
	case p.me.Key.Rank != api.RAt:
		return nil, 80
	}
	if e := p.holds(i, o); e != 0 {
		return nil, e
	}
	waited := p.recs[i].row[1:]
	p.recs = slices.Delete(p.recs, i, i+1)
	return waited, 0
}

func (p *plain) setLeft(w api.Vec, r api.Ref) api.Errno {
	i := p.find(w)
	switch {
	case i < 0:
		return 82
	case !below(r.Key, p.me.Key):
		return 83
	}
	p.recs[i].left = r
	return 0
}

func (p *plain) setRight(w api.Vec, r api.Ref, o api.Owner) api.Errno {
	i := p.find(w)
	if i < 0 {
		return 82
	}
	if e := p.holds(i, o); e != 0 {
		return e
	}
	if !below(p.me.Key, r.Key) {
		return 83
	}
	p.recs[i].right = r
	return 0
}

func (p *plain) lock(w api.Vec, o api.Owner) (bool, api.Errno) {
	i := p.find(w)
	if i < 0 {
		return false, 82
	}
	if e := lock.Check(o); e != 0 {
		return false, e
	}
	row := p.recs[i].row
	if k := slices.Index(row, o); k >= 0 {
		return k == 0, 0
	}
	if len(row) > 64 {
		return false, 3
	}
	p.recs[i].row = append(slices.Clone(row), o)
	return len(row) == 0, 0
}

func (p *plain) free(w api.Vec, o api.Owner) (api.Owner, bool, api.Errno) {
	i := p.find(w)
	if i < 0 {
		return api.Owner{}, false, 82
	}
	if e := p.holds(i, o); e != 0 {
		return api.Owner{}, false, e
	}
	row := slices.Clone(p.recs[i].row[1:])
	p.recs[i].row = row
	if len(row) == 0 {
		return api.Owner{}, false, 0
	}
	return row[0], true, 0
}

// all are the records that are told, by their lists' texts: those of shorter lists that begin alike stand ahead.
func (p *plain) all() []api.RecState {
	first := newPlain(p.me)
	texts := map[string]api.RecState{}
	var names []string
	for _, n := range p.recs {
		if i := first.find(n.w); i >= 0 && alike(first.recs[i].state(), n.state()) {
			continue
		}
		text, _ := vec.Text(n.w)
		if text == "." {
			text = ""
		}
		names = append(names, text)
		texts[text] = n.state()
	}
	slices.Sort(names)
	var l []api.RecState
	for _, name := range names {
		l = append(l, texts[name])
	}
	return l
}

// deck is what calls are drawn from.
type deck struct {
	lists  []api.Vec
	refs   []api.Ref
	owners []api.Owner
}

// deckOf has the peer's lists, some that are none of its, and others on both sides of it; of so many owners.
func deckOf(me api.Ref, many int) deck {
	k := deck{lists: slices.Collect(vec.Prefixes(me.Vec))}
	k.lists = append(k.lists, k.lists...)
	k.lists = append(k.lists, v("0"), v("01"), v("1"), v("11"), v("0000"), api.Vec{Len: 33}, api.Vec{Len: 1, Bits: 2})
	text, _ := vec.Text(me.Vec)
	k.refs = []api.Ref{head(text), at(1), at(2), at(4), tail(text), at(6), at(8), at(9), me, at(5), {}, keyed(api.RLow, 2), keyed(4, 0)}
	for i := range many {
		k.owners = append(k.owners, own(i%9, 1+i/9))
	}
	return k
}

func pick[T any](l []T, x byte) T { return l[int(x)%len(l)] }

// owner is one of the deck: one in eight times one that may not be, and often who holds the record, lest most calls be refused.
func (k deck) owner(p *plain, w api.Vec, x byte) api.Owner {
	if x%8 == 0 {
		return pick(wrongOwners(), x/8)
	}
	if i := p.find(w); x%8 < 5 && i >= 0 && len(p.recs[i].row) > 0 {
		return p.recs[i].row[0]
	}
	return pick(k.owners, x/8)
}

// both do a call, made of five bytes; it tells whether they answered alike, and in which list.
func both(l *Links, p *plain, k deck, call [5]byte) (bool, api.Vec) {
	w, r, s := pick(k.lists, call[1]), pick(k.refs, call[2]), pick(k.refs, call[3])
	o := k.owner(p, w, call[4])
	switch call[0] % 12 {
	case 0, 1:
		// Half of those that are put stand between two that belong there.
		if call[0]%2 == 0 {
			r, s = pick(k.refs[:4], call[2]), pick(k.refs[4:8], call[3])
		}
		return l.Put(w, r, s, o) == p.put(w, r, s, o), w
	case 2:
		waited, e := l.Out(w, o)
		want, f := p.out(w, o)
		return slices.Equal(waited, want) && e == f, w
	case 3, 4:
		return l.Left(w, r) == p.setLeft(w, r), w
	case 5, 6:
		return l.Right(w, r, o) == p.setRight(w, r, o), w
	case 7, 8, 9:
		o = pick(append(slices.Clone(k.owners), wrongOwners()[0]), call[4])
		is, e := l.Lock(w, o)
		was, f := p.lock(w, o)
		return is == was && e == f, w
	}
	next, is, e := l.Free(w, o)
	then, was, f := p.free(w, o)
	return next == then && is == was && e == f, w
}

// onSides holds P8.5: in all records that are told.
func onSides(t *testing.T, l *Links, me api.Ref) {
	t.Helper()
	for _, r := range l.All() {
		left, right := below(r.Left.Key, me.Key), below(me.Key, r.Right.Key)
		if me.Key.Rank == api.RLow {
			left = r.Left == api.Ref{}
		}
		if me.Key.Rank == api.RHigh {
			right = r.Right == api.Ref{}
		}
		if !left || !right {
			t.Errorf("beside %v: %+v", me, r)
		}
	}
}

// play does calls, five bytes each, and holds the table against what it is told to be.
func play(t *testing.T, me api.Ref, many int, calls []byte) {
	l, p, k := table(t, me), newPlain(me), deckOf(me, many)
	for i := 0; i+5 <= len(calls) && !t.Failed(); i += 5 {
		call := [5]byte(calls[i:])
		before := l.All()
		same, w := both(l, p, k, call)
		if !same {
			t.Errorf("%v: call %v, number %d, is answered otherwise", me, call, i/5)
		}
		if got := l.All(); !slices.EqualFunc(got, p.all(), alike) {
			t.Errorf("%v: behind call %v, number %d: %+v; not %+v", me, call, i/5, got, p.all())
		}
		for _, w := range k.lists {
			r, in := l.Get(w)
			if n := p.find(w); in != (n >= 0) || in && !alike(r, p.recs[n].state()) || !in && !alike(r, api.RecState{}) {
				t.Errorf("Get(%v) = %+v, %v", w, r, in)
			}
		}
		// P8.6
		if !slices.EqualFunc(others(before, w), others(l.All(), w), alike) {
			t.Errorf("call %v in %v changes others: %+v, %+v", call, w, before, l.All())
		}
		onSides(t, l, me)
	}
}

// others are the records of all lists but one.
func others(l []api.RecState, w api.Vec) []api.RecState {
	return slices.DeleteFunc(slices.Clone(l), func(r api.RecState) bool { return r.W == w })
}

// row is bytes that a number makes.
func row(length int, seed uint64) []byte {
	b := make([]byte, length)
	for i := range b {
		seed = seed*6364136223846793005 + 1442695040888963407
		b[i] = byte(seed >> 33)
	}
	return b
}

// players are the peers whose tables are played: such as have records, and both ends.
func players() []api.Ref {
	return []api.Ref{me(5, "."), me(5, "1"), me(5, "10"), me(5, "0110"), head("."), head("10"), head("000"), tail("."), tail("11"), tail("000")}
}

// P8.1 to P8.6: calls in many orders, looked at behind each; of few owners, and of more than may wait.
func TestCalls(t *testing.T) {
	for seed := range uint64(12) {
		for _, me := range players() {
			for _, many := range []int{1, 2, 4, 90} {
				play(t, me, many, row(1500, seed))
			}
		}
	}
}

// P8.4: Lock and Free tell what a lock tells for which the same owners ask, of a peer's record and of an end's.
func TestHeldAgainstLock(t *testing.T) {
	for seed := range uint64(40) {
		for _, many := range []int{1, 2, 3, 7, 80} {
			peer, end := table(t, me(5, "10")), table(t, tail("10"))
			puts(t, peer, "1", at(3), at(9), a)
			frees(t, peer, "1", a, api.Owner{})
			for _, l := range []*Links{peer, end} {
				against(t, l, many, row(600, seed))
			}
		}
	}
}

// against does calls, two bytes each, in a list and of a lock.
func against(t *testing.T, l *Links, many int, calls []byte) {
	m, w := lock.New(), v("1")
	for i := 0; i+2 <= len(calls) && !t.Failed(); i += 2 {
		o := own(int(calls[i+1])%many%9, 1+int(calls[i+1])%many/9)
		if holder, held := m.Holder(); held && calls[i]%8 == 0 {
			o = holder
		}
		if calls[i+1] == 77 {
			o = pick(wrongOwners(), calls[i])
		}
		if calls[i]%8 < 2 {
			next, is, e := l.Free(w, o)
			then, was, f := m.Free(o)
			if next != then || is != was || e != f {
				t.Errorf("Free(%v) = %v, %v, %d; not %v, %v, %d", o, next, is, e, then, was, f)
			}
		} else {
			is, e := l.Lock(w, o)
			if was, f := m.Ask(o); is != was || e != f {
				t.Errorf("Lock(%v) = %v, %d; not %v, %d", o, is, e, was, f)
			}
		}
		r, _ := l.Get(w)
		if holder, held := m.Holder(); r.Owner != holder || r.Held != held || !slices.Equal(r.Waits, m.Waits()) {
			t.Errorf("behind call %d: %+v; not %v, %v, %v", i/2, r, holder, held, m.Waits())
		}
	}
}

// P8.6: locks, sides and ends of one list leave those of the others as they were.
func TestApart(t *testing.T) {
	l := table(t, me(5, "10"))
	puts(t, l, ".", at(4), at(6), a)
	puts(t, l, "1", at(3), at(9), a)
	puts(t, l, "10", at(2), at(10), a)
	locks(t, l, "1", b, false)
	all(t, l, rec(".", at(4), at(6), a), rec("1", at(3), at(9), a, b), rec("10", at(2), at(10), a))
	tells(t, "Left", l.Left(v("1"), at(1)), 0)
	tells(t, "Right", l.Right(v("10"), at(11), a), 0)
	frees(t, l, ".", a, api.Owner{})
	all(t, l, rec(".", at(4), at(6)), rec("1", at(1), at(9), a, b), rec("10", at(2), at(11), a))
	outs(t, l, "1", a, b)
	all(t, l, rec(".", at(4), at(6)), rec("10", at(2), at(11), a))
	other := table(t, me(5, "10"))
	all(t, other)
	end, twin := table(t, head("10")), table(t, head("10"))
	locks(t, end, "1", a, true)
	locks(t, twin, "1", b, true)
	all(t, end, rec("1", api.Ref{}, tail("10"), a))
	all(t, twin, rec("1", api.Ref{}, tail("10"), b))
}

// P8.7: behind Out a record is put as if there had been none, as often as one likes.
func TestWholeAgain(t *testing.T) {
	l := table(t, me(5, "10"))
	for i := range 10 {
		for _, w := range []string{"1", ".", "10"} {
			fresh := table(t, me(5, "10"))
			o := own(i, 1+i)
			puts(t, fresh, w, at(3), at(9), o)
			puts(t, l, w, at(3), at(9), o)
			all(t, l, fresh.All()...)
			locks(t, l, w, a, o == a)
			locks(t, l, w, c, false)
			tells(t, "Left", l.Left(v(w), at(1)), 0)
			tells(t, "Right", l.Right(v(w), at(8), o), 0)
			if o == a {
				outs(t, l, w, a, c)
			} else {
				outs(t, l, w, o, a, c)
			}
			all(t, l)
			tells(t, "Left behind Out", l.Left(v(w), at(1)), 82)
			if _, e := l.Lock(v(w), c); e != 82 {
				t.Errorf("Lock behind Out: %d", e)
			}
			if _, e := l.Out(v(w), o); e != 82 {
				t.Errorf("Out behind Out: %d", e)
			}
		}
	}
}

// spoil writes over who waits in records that were told, and over what may stand behind them.
func spoil(l ...api.RecState) {
	for i := range l {
		spoilOwners(l[i].Waits)
		l[i] = api.RecState{}
	}
}

func spoilOwners(l []api.Owner) {
	l = l[:cap(l)]
	for i := range l {
		l[i] = own(9, 9)
	}
}

// An answer is new memory: the table does not change with it, nor it with the table or another answer.
func TestAnswersOwn(t *testing.T) {
	for _, who := range []api.Ref{me(5, "10"), head("10")} {
		l := table(t, who)
		if who.Key.Rank == api.RAt {
			puts(t, l, "1", at(3), at(9), a)
		}
		locks(t, l, "1", a, true)
		for _, o := range []api.Owner{b, c, d} {
			locks(t, l, "1", o, false)
		}
		first, second := l.All(), l.All()
		third, _ := l.Get(v("1"))
		fourth, _ := l.Get(v("1"))
		want := append([]api.RecState(nil), l.All()...)
		spoil(first...)
		spoil(fourth)
		all(t, l, want...)
		frees(t, l, "1", a, b)
		locks(t, l, "1", a, false)
		if !alike(second[0], third) || !slices.Equal(third.Waits, []api.Owner{b, c, d}) {
			t.Errorf("what was told is %+v, %+v now", second, third)
		}
		spoil(second...)
		spoil(third)
		if got, _ := l.Get(v("1")); got.Owner != b || !slices.Equal(got.Waits, []api.Owner{c, d, a}) {
			t.Errorf("the record is %+v now", got)
		}
	}
}

// Those that waited are told in memory of their own, which a record that is put there later does not touch.
func TestOutOwn(t *testing.T) {
	l := table(t, me(5, "10"))
	puts(t, l, "1", at(3), at(9), a)
	locks(t, l, "1", b, false)
	locks(t, l, "1", c, false)
	told, _ := l.Get(v("1"))
	waited, _ := l.Out(v("1"), a)
	puts(t, l, "1", at(3), at(9), d)
	locks(t, l, "1", own(7, 7), false)
	if !slices.Equal(waited, []api.Owner{b, c}) {
		t.Errorf("those that waited are %v now", waited)
	}
	spoilOwners(waited)
	if !slices.Equal(told.Waits, []api.Owner{b, c}) {
		t.Errorf("what was told is %+v now", told)
	}
	is(t, l, rec("1", at(3), at(9), d, own(7, 7)))
}

// Same changes nothing of what is handed in.
func TestSameLeaves(t *testing.T) {
	x, y := rec("1", at(3), at(9), a, d, b, c), rec("1", at(3), at(9), a, b, c, d)
	if Same(x, y) || !slices.Equal(x.Waits, []api.Owner{d, b, c}) || !slices.Equal(y.Waits, []api.Owner{b, c, d}) {
		t.Errorf("%+v, %+v", x, y)
	}
}

// P8.1 to P8.6: whatever the calls are.
func FuzzCalls(f *testing.F) {
	f.Add(row(200, 1), byte(4), byte(2))
	f.Add(row(900, 2), byte(90), byte(6))
	f.Fuzz(func(t *testing.T, calls []byte, many, who byte) {
		play(t, pick(players(), who), 1+int(many), calls)
	})
}
