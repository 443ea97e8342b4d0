package lock

import (
	"math"
	"slices"
	"testing"

	"leapfrog/api"
)

func own(agent, op int) api.Owner { return api.Owner{Agent: agent, Op: op} }

// The owners of the smaller tests; in order they are a, c, b, d.
var (
	a = own(0, 1)
	b = own(1, 1)
	c = own(0, 2)
	d = own(1023, 1<<30)
)

// rightOwners are owners that may be, wrongOwners such as may not.
func rightOwners() []api.Owner {
	var l []api.Owner
	for _, agent := range []int{0, 1, 15, 16, 512, 1022, 1023} {
		for _, op := range []int{1, 2, 64, 1 << 16, 1<<30 - 1, 1 << 30} {
			l = append(l, own(agent, op))
		}
	}
	return l
}

func wrongOwners() []api.Owner {
	var l []api.Owner
	agents := []int{-1, -2, -1023, 1024, 1025, 1 << 30, 1 << 32, 1<<32 + 5, math.MinInt, math.MaxInt}
	ops := []int{0, -1, -(1 << 30), 1<<30 + 1, 1 << 31, 1 << 32, 1<<32 + 5, 1 << 62, math.MinInt, math.MaxInt}
	for _, agent := range agents {
		l = append(l, own(agent, 1), own(agent, 1<<30))
		for _, op := range ops {
			l = append(l, own(agent, op))
		}
	}
	for _, op := range ops {
		l = append(l, own(0, op), own(1023, op))
	}
	return l
}

// asked is a lock for which these asked, in this order: the first holds it, the others wait.
func asked(t *testing.T, row ...api.Owner) *Lock {
	t.Helper()
	l := New()
	for i, o := range row {
		asks(t, l, o, i == 0)
	}
	return l
}

// asks holds what Ask tells one that may ask.
func asks(t *testing.T, l *Lock, o api.Owner, want bool) {
	t.Helper()
	if is, e := l.Ask(o); is != want || e != api.OK {
		t.Errorf("Ask(%v) = %v, %d; not %v", o, is, e, want)
	}
}

// frees holds to whom a lock goes, that its holder gives back; a zero owner is nobody.
func frees(t *testing.T, l *Lock, o, want api.Owner) {
	t.Helper()
	if next, is, e := l.Free(o); next != want || is != (want != api.Owner{}) || e != api.OK {
		t.Errorf("Free(%v) = %v, %v, %d; not %v", o, next, is, e, want)
	}
}

// leaves holds what Leave tells.
func leaves(t *testing.T, l *Lock, o api.Owner, want bool) {
	t.Helper()
	if is, e := l.Leave(o); is != want || e != api.OK {
		t.Errorf("Leave(%v) = %v, %d; not %v", o, is, e, want)
	}
}

// refuses holds that one may not free a lock, and why.
func refuses(t *testing.T, l *Lock, o api.Owner, want api.Errno) {
	t.Helper()
	if next, is, e := l.Free(o); next != (api.Owner{}) || is || e != want {
		t.Errorf("Free(%v) = %v, %v, %d; not %d", o, next, is, e, want)
	}
}

// stands holds who holds a lock, that is the first, and who waits for it, those are the others.
func stands(t *testing.T, l *Lock, row ...api.Owner) {
	t.Helper()
	var first api.Owner
	if len(row) > 0 {
		first = row[0]
	}
	if o, is := l.Holder(); o != first || is != (len(row) > 0) {
		t.Errorf("Holder = %v, %v; of %v", o, is, row)
	}
	if waits := l.Waits(); !slices.Equal(waits, row[min(1, len(row)):]) {
		t.Errorf("Waits = %v; of %v", waits, row)
	}
}

// ends holds who waited for a lock at its end, and that nobody does then.
func ends(t *testing.T, l *Lock, want ...api.Owner) {
	t.Helper()
	if waited, e := l.End(); !slices.Equal(waited, want) || e != api.OK {
		t.Errorf("End = %v, %d; not %v", waited, e, want)
	}
	stands(t, l)
}

// crowd are so many owners, no two alike, in no order.
func crowd(n int) []api.Owner {
	var l []api.Owner
	for i := range n {
		l = append(l, own(i*7%10, 1+i*11%97))
	}
	return l
}

// P7.1: owners at each limit and past it.
func TestCheck(t *testing.T) {
	for _, o := range rightOwners() {
		if e := Check(o); e != api.OK {
			t.Errorf("Check(%v) = %d", o, e)
		}
	}
	for _, o := range append(wrongOwners(), api.Owner{}) {
		if e := Check(o); e != 70 {
			t.Errorf("Check(%v) = %d", o, e)
		}
	}
}

// P7.1, P7.2: every owner that may be holds a lock, waits, leaves, and gives it back.
func TestRightOwners(t *testing.T) {
	for _, o := range rightOwners() {
		l := asked(t, o)
		stands(t, l, o)
		frees(t, l, o, api.Owner{})
		other := own(7, 7)
		l = asked(t, other, o)
		stands(t, l, other, o)
		leaves(t, l, o, true)
		asks(t, l, o, false)
		frees(t, l, other, o)
		stands(t, l, o)
	}
}

// P7.1, P7.2: one that may not be is refused ahead of all else, and nothing changes.
func TestWrongOwners(t *testing.T) {
	full := crowd(65)
	for _, row := range [][]api.Owner{nil, {a}, {a, b, c}, full} {
		l := asked(t, row...)
		for _, o := range append(wrongOwners(), api.Owner{}) {
			if is, e := l.Ask(o); is || e != 70 {
				t.Errorf("Ask(%v) = %v, %d", o, is, e)
			}
			if is, e := l.Leave(o); is || e != 70 {
				t.Errorf("Leave(%v) = %v, %d", o, is, e)
			}
			refuses(t, l, o, 70)
		}
		stands(t, l, row...)
	}
}

// P7.1: of a lock that nobody holds, of one that one holds oneself, that one waits for, that another one holds.
func TestAsk(t *testing.T) {
	l := New()
	stands(t, l)
	asks(t, l, b, true)
	stands(t, l, b)
	asks(t, l, b, true)
	stands(t, l, b)
	asks(t, l, a, false)
	asks(t, l, d, false)
	stands(t, l, b, a, d)
	for range 3 {
		asks(t, l, a, false)
		asks(t, l, b, true)
		asks(t, l, d, false)
	}
	stands(t, l, b, a, d)
}

// P7.1: owners are told apart by both of their parts.
func TestAskAlike(t *testing.T) {
	row := []api.Owner{own(1, 2), own(2, 1), own(1, 1), own(2, 2), own(0, 1), own(0, 2)}
	l := asked(t, row...)
	stands(t, l, row...)
	for i, o := range row {
		asks(t, l, o, i == 0)
	}
	refuses(t, l, own(1, 3), 71)
	refuses(t, l, own(3, 2), 71)
	leaves(t, l, own(2, 3), false)
	leaves(t, l, own(3, 1), false)
	stands(t, l, row...)
}

// P7.1: MaxWaits wait, and one more may not; those that hold and wait may ask on; who leaves makes room for one.
func TestAskMany(t *testing.T) {
	all := crowd(70)
	l := New()
	for i, o := range all[:65] {
		asks(t, l, o, i == 0)
		stands(t, l, all[:i+1]...)
	}
	no := func(more ...api.Owner) {
		t.Helper()
		for _, o := range more {
			if is, e := l.Ask(o); is || e != 3 {
				t.Errorf("Ask(%v) = %v, %d", o, is, e)
			}
		}
	}
	no(all[65:]...)
	for i, o := range all[:65] {
		asks(t, l, o, i == 0)
	}
	stands(t, l, all[:65]...)

	leaves(t, l, all[64], true)
	asks(t, l, all[65], false)
	no(all[64])
	leaves(t, l, all[1], true)
	asks(t, l, all[1], false)
	no(all[66:]...)
	frees(t, l, all[0], all[2])
	asks(t, l, all[0], false)
	no(all[66:]...)
	want := append(slices.Clone(all[2:64]), all[65], all[1], all[0])
	stands(t, l, want...)
	ends(t, l, want[1:]...)
	asks(t, l, all[69], true)
}

// P7.2: the first that waits holds it next, till nobody does; then it is anybody's.
func TestFree(t *testing.T) {
	l := asked(t, a, b, c)
	frees(t, l, a, b)
	stands(t, l, b, c)
	asks(t, l, a, false)
	frees(t, l, b, c)
	stands(t, l, c, a)
	frees(t, l, c, a)
	stands(t, l, a)
	frees(t, l, a, api.Owner{})
	stands(t, l)
	refuses(t, l, a, 71)
	asks(t, l, c, true)
	frees(t, l, c, api.Owner{})
	stands(t, l)
}

// P7.2: who waits, who never asked, who left, and who gave it back may not free it.
func TestFreeRefused(t *testing.T) {
	l := New()
	refuses(t, l, a, 71)
	l = asked(t, a, b, c)
	for _, o := range []api.Owner{b, c, d} {
		refuses(t, l, o, 71)
	}
	stands(t, l, a, b, c)
	leaves(t, l, c, true)
	refuses(t, l, c, 71)
	frees(t, l, a, b)
	refuses(t, l, a, 71)
	stands(t, l, b)
	frees(t, l, b, api.Owner{})
	for _, o := range []api.Owner{a, b, c, d} {
		refuses(t, l, o, 71)
	}
	stands(t, l)
}

// P7.2: who waits first, last and in between may leave; the others stand as they stood.
func TestLeave(t *testing.T) {
	all := crowd(5)
	for i := 1; i < 5; i++ {
		l := asked(t, all...)
		leaves(t, l, all[i], true)
		rest := slices.Delete(slices.Clone(all), i, i+1)
		stands(t, l, rest...)
		leaves(t, l, all[i], false)
		stands(t, l, rest...)
		asks(t, l, all[i], false)
		stands(t, l, append(rest, all[i])...)
	}
	l := asked(t, all...)
	for _, i := range []int{3, 1, 4, 2} {
		leaves(t, l, all[i], true)
	}
	stands(t, l, all[0])
}

// P7.2: who holds it, who never asked, and who gave it back does not wait.
func TestLeaveNot(t *testing.T) {
	for _, row := range [][]api.Owner{nil, {a}, {a, b}, {a, b, c}} {
		l := asked(t, row...)
		leaves(t, l, a, false)
		leaves(t, l, d, false)
		stands(t, l, row...)
	}
	l := asked(t, a, b)
	frees(t, l, a, b)
	leaves(t, l, a, false)
	leaves(t, l, b, false)
	stands(t, l, b)
}

// P7.3: End with some and with nobody that waits, and of a lock that nobody holds; behind it all is as with a new one.
func TestEnd(t *testing.T) {
	for _, row := range [][]api.Owner{nil, {a}, {a, b}, {d, c, b, a}, crowd(65)} {
		l := asked(t, row...)
		ends(t, l, row[min(1, len(row)):]...)
		ends(t, l)
		for _, o := range row {
			refuses(t, l, o, 71)
			leaves(t, l, o, false)
		}
		stands(t, l)
		slices.Reverse(row)
		for i, o := range row {
			asks(t, l, o, i == 0)
		}
		stands(t, l, row...)
		ends(t, l, row[min(1, len(row)):]...)
	}
}

// plain is what a lock is told to be: its holder, and those that wait.
type plain struct {
	held   bool
	holder api.Owner
	waits  []api.Owner
}

func (w *plain) ask(o api.Owner) (bool, api.Errno) {
	if w.held && w.holder == o {
		return true, 0
	}
	if slices.Contains(w.waits, o) {
		return false, 0
	}
	if !w.held {
		w.held, w.holder = true, o
		return true, 0
	}
	if len(w.waits) == 64 {
		return false, 3
	}
	w.waits = append(w.waits, o)
	return false, 0
}

func (w *plain) free(o api.Owner) (api.Owner, bool, api.Errno) {
	if !w.held || w.holder != o {
		return api.Owner{}, false, 71
	}
	w.held, w.holder = false, api.Owner{}
	if len(w.waits) > 0 {
		w.held, w.holder, w.waits = true, w.waits[0], slices.Clone(w.waits[1:])
	}
	return w.holder, w.held, 0
}

func (w *plain) leave(o api.Owner) bool {
	before := len(w.waits)
	w.waits = slices.DeleteFunc(w.waits, func(x api.Owner) bool { return x == o })
	return len(w.waits) < before
}

// both do a call, made of two bytes, with one of so many owners; it tells whether they answered alike.
func both(l *Lock, w *plain, call [2]byte, many int) bool {
	o := own(int(call[1])%many%9, 1+int(call[1])%many/9)
	switch call[0] % 16 {
	case 0, 1, 2, 3, 4, 5, 6, 7:
		is, e := l.Ask(o)
		was, f := w.ask(o)
		return is == was && e == f
	case 8, 9, 10:
		// Most that are drawn do not hold it: the holder is to come to its turn, too.
		o, _ = l.Holder()
		if o == (api.Owner{}) {
			o = a
		}
		fallthrough
	case 11, 12:
		next, is, e := l.Free(o)
		then, was, f := w.free(o)
		return next == then && is == was && e == f
	case 13, 14:
		is, e := l.Leave(o)
		return is == w.leave(o) && e == 0
	}
	if call[1] > 15 {
		wrong := own(-1-o.Agent, o.Op)
		is, e := l.Ask(wrong)
		_, _, f := l.Free(wrong)
		_, g := l.Leave(wrong)
		return !is && e == 70 && f == 70 && g == 70
	}
	waited, e := l.End()
	want := w.waits
	*w = plain{}
	return slices.Equal(waited, want) && e == 0
}

// play does calls, two bytes each, and holds the lock against what it is told to be.
func play(t *testing.T, calls []byte, many int) {
	l, w := New(), &plain{}
	for i := 0; i+2 <= len(calls) && !t.Failed(); i += 2 {
		call := [2]byte(calls[i:])
		if !both(l, w, call, many) {
			t.Errorf("call %v, number %d, is answered otherwise", call, i/2)
		}
		o, is := l.Holder()
		if o != w.holder || is != w.held || !slices.Equal(l.Waits(), w.waits) {
			t.Errorf("behind call %d: %v, %v, %v; not %+v", i/2, o, is, l.Waits(), w)
		}
		// P7.5
		if !is && len(l.Waits()) > 0 {
			t.Errorf("%v wait for what nobody holds", l.Waits())
		}
	}
}

// row is bytes that a number makes.
func row(length int, seed uint64) []byte {
	b := make([]byte, length)
	for i := range b {
		seed = seed*6364136223846793005 + 1442695040888963407
		b[i] = byte(seed >> 33)
	}
	return b
}

// P7.1, P7.2, P7.3, P7.5: calls in many orders, looked at behind each; of few owners, and of more than may wait.
func TestCalls(t *testing.T) {
	for seed := range uint64(60) {
		for _, many := range []int{1, 2, 3, 5, 12, 90, 250} {
			play(t, row(1200, seed), many)
		}
	}
}

// P7.5: owners hold it in the order in which they asked, but those that left.
func TestInTurn(t *testing.T) {
	for seed := range uint64(200) {
		l := New()
		var order, held []api.Owner
		come := func(o api.Owner, is bool) {
			if is {
				held = append(held, o)
			}
		}
		for i, x := range row(300, seed) {
			o := own(i, 1+int(x))
			switch holder, _ := l.Holder(); {
			case x%4 == 0:
				next, is, _ := l.Free(holder)
				come(next, is)
			case x%4 == 1 && len(l.Waits()) > 0:
				gone := l.Waits()[int(x)%len(l.Waits())]
				leaves(t, l, gone, true)
				order = slices.DeleteFunc(order, func(o api.Owner) bool { return o == gone })
			case len(l.Waits()) < 64:
				is, _ := l.Ask(o)
				come(o, is)
				order = append(order, o)
			}
		}
		for holder, is := l.Holder(); is; holder, is = l.Holder() {
			next, more, _ := l.Free(holder)
			come(next, more)
		}
		if !slices.Equal(held, order) || len(held) < 20 {
			t.Errorf("asked %v, held %v", order, held)
		}
	}
}

// P7.1, P7.2, P7.3: a Lock that is nil, and one that New did not make, whatever else is wrong.
func TestNotMade(t *testing.T) {
	for name, l := range map[string]*Lock{"nil": nil, "not made": {}, "new": new(Lock)} {
		for _, o := range []api.Owner{a, d, {}, own(-1, 1), own(math.MaxInt, math.MinInt)} {
			if is, e := l.Ask(o); is || e != 4 {
				t.Errorf("%s: Ask(%v) = %v, %d", name, o, is, e)
			}
			if next, is, e := l.Free(o); next != (api.Owner{}) || is || e != 4 {
				t.Errorf("%s: Free(%v) = %v, %v, %d", name, o, next, is, e)
			}
			if is, e := l.Leave(o); is || e != 4 {
				t.Errorf("%s: Leave(%v) = %v, %d", name, o, is, e)
			}
		}
		if waited, e := l.End(); len(waited) != 0 || e != 4 {
			t.Errorf("%s: End = %v, %d", name, waited, e)
		}
		stands(t, l)
	}
}

// spoil writes over an answer, and over what may stand behind it.
func spoil(l []api.Owner) {
	l = l[:cap(l)]
	for i := range l {
		l[i] = own(9, 9)
	}
}

// P7.3: an answer is new memory: nothing else changes with it, nor does it change with the lock.
func TestAnswersOwn(t *testing.T) {
	l := asked(t, a, b, c, d)
	first, second := l.Waits(), l.Waits()
	spoil(first)
	stands(t, l, a, b, c, d)
	frees(t, l, a, b)
	leaves(t, l, d, true)
	asks(t, l, a, false)
	if !slices.Equal(second, []api.Owner{b, c, d}) {
		t.Errorf("what was told is %v now", second)
	}
	spoil(second)
	stands(t, l, b, c, a)
	third := l.Waits()
	waited, _ := l.End()
	asks(t, l, d, true)
	asks(t, l, b, false)
	spoil(third)
	if !slices.Equal(waited, []api.Owner{c, a}) {
		t.Errorf("those that waited are %v now", waited)
	}
	spoil(waited)
	stands(t, l, d, b)
}

// Locks share nothing with each other, nor does one with what was copied from it.
func TestLocksApart(t *testing.T) {
	l, m := asked(t, a, b, c), asked(t, c, d)
	twin := *l
	leaves(t, l, b, true)
	asks(t, l, d, false)
	asks(t, &twin, own(5, 5), false)
	frees(t, m, c, d)
	stands(t, l, a, c, d)
	stands(t, &twin, a, b, c, own(5, 5))
	stands(t, m, d)
	stands(t, New())
}

// The document's example, as far as it tells of a lock.
func TestExample(t *testing.T) {
	l := New()
	asks(t, l, a, true)
	asks(t, l, b, false)
	asks(t, l, c, false)
	leaves(t, l, b, true)
	frees(t, l, a, c)
}

// P7.1, P7.2, P7.3, P7.5: whatever the calls are.
func FuzzCalls(f *testing.F) {
	f.Add(row(90, 1), byte(4))
	f.Add(row(400, 2), byte(90))
	f.Fuzz(func(t *testing.T, calls []byte, many byte) {
		play(t, calls, 1+int(many))
	})
}
