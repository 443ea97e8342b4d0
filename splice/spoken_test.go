package splice

import (
	"iter"
	"slices"
	"testing"

	"leapfrog/api"
)

// below tells whether a key stands ahead of another one.
func below(a, b api.Key) bool {
	return a.Rank < b.Rank || a.Rank == b.Rank && a.N < b.N
}

// draw makes numbers that look like chance, the same each time.
type draw uint64

func (d *draw) below(n int) int {
	*d = *d*6364136223846793005 + 1442695040888963407
	return int(uint64(*d)>>33) % n
}

// teller is whom a tale asks, and with whom it waits.
type teller struct {
	c     api.SpliceConf
	told  api.Answer
	yield func(api.Step) bool
	left  bool // nobody listens any more
}

func (w *teller) ask(to api.Ref, k api.AskKind, refs ...api.Ref) api.Answer {
	w.left = w.left || !w.yield(asks(w.c, to, k, refs...))
	return w.told
}

func (w *teller) wait() {
	w.left = w.left || !w.yield(waits())
}

// tale is a splice as the chapter says it, word by word, by somebody who waits for each answer.
func (w *teller) tale() api.Step {
	c, p := w.c, w.c.From
	var last []api.Ref
	free := func() { w.ask(p, api.QFree) }
	for !w.left {
		// Lock
		a := w.ask(p, api.QLock)
		if a.Kind == 2 || a.Kind == 3 {
			if last == nil {
				return over(131)
			}
			w.wait()
			p, last = last[0], nil
			continue
		}
		if a.Kind != 1 {
			w.wait()
			continue
		}
		r := a.Right
		// Look
		if !below(p.Key, r.Key) {
			free()
			return over(131)
		}
		if below(r.Key, c.Me.Key) {
			free()
			last, p = []api.Ref{p}, r
			continue
		}
		if r.Key == c.Me.Key && c.W.Len > 0 {
			free()
			w.wait()
			continue
		}
		if r.Key == c.Me.Key {
			// Same
			b := w.ask(r, api.QRead)
			free()
			if b.Kind == 1 && !b.Marked {
				return over(100, p, r)
			}
			w.wait()
			continue
		}
		return w.entered(p, r)
	}
	return api.Step{}
}

// entered is the tale from Enter on.
func (w *teller) entered(p, r api.Ref) api.Step {
	me := w.c.Me
	free := func() { w.ask(p, api.QFree) }
	if k := w.ask(me, api.QRec, p, r).Kind; k != 1 {
		free()
		if k == 3 {
			return over(132)
		}
		return over(133)
	}
	// Right
	a := w.ask(p, api.QRight, me)
	if a.Kind == 3 {
		free = func() {}
	}
	if a.Kind == 1 || a.Kind == 3 && a.Right.ID == me.ID {
		w.ask(r, api.QLeft, me)
		k := w.ask(me, api.QFree).Kind
		free()
		if k == 3 {
			return over(132)
		}
		return over(0, p, r)
	}
	// Out
	k := w.ask(me, api.QOut).Kind
	free()
	if k == 3 {
		return over(132)
	}
	return over(131)
}

// steps are all that the tale wants, its end last.
func (w *teller) steps() iter.Seq[api.Step] {
	return func(yield func(api.Step) bool) {
		w.yield = yield
		if end := w.tale(); !w.left {
			yield(end)
		}
	}
}

// watch holds P13.3 and P13.4 against what a splice wants and is told.
type watch struct {
	me     api.Ref
	held   []api.Ref
	locked []api.Key // since the last wait
}

func (m *watch) sees(t *testing.T, x api.Step, a api.Answer) {
	t.Helper()
	if x.Kind != api.SAsk || x.Ask.Kind == api.QLock {
		if len(m.held) > 0 {
			t.Fatalf("holds %v, and wants %v", m.held, x)
		}
	}
	if x.Kind == api.SWait {
		m.locked = nil
	}
	if x.Kind != api.SAsk {
		return
	}
	switch x.Ask.Kind {
	case api.QLock:
		if n := len(m.locked); n > 0 && !below(m.locked[n-1], x.To.Key) {
			t.Fatalf("locks %v behind %v", x.To, m.locked)
		}
		m.locked = append(m.locked, x.To.Key)
		if a.Kind == api.AOK {
			m.held = append(m.held, x.To)
		}
	case api.QRec:
		if a.Kind == api.AOK {
			m.held = append(m.held, x.To)
		}
	case api.QFree, api.QOut:
		i := slices.Index(m.held, x.To)
		if i < 0 {
			t.Fatalf("frees %v, which it does not hold", x.To)
		}
		m.held = slices.Delete(m.held, i, i+1)
	case api.QRight:
		// Who is dead holds no lock.
		if a.Kind == api.ADead {
			m.held = slices.DeleteFunc(m.held, func(r api.Ref) bool { return r == x.To })
		}
	}
	if len(m.held) > 2 || len(m.held) == 2 && !slices.Contains(m.held, m.me) {
		t.Fatalf("holds %v", m.held)
	}
}

// bytesOf are numbers out of bytes, zeros behind their end.
type bytesOf []byte

func (b *bytesOf) next() int {
	if len(*b) == 0 {
		return 0
	}
	n := int((*b)[0])
	*b = (*b)[1:]
	return n
}

// settings are some that may be.
func (b *bytesOf) settings() api.SpliceConf {
	n := b.next() % 4
	w := api.Vec{Len: n, Bits: uint64(b.next()) % (1 << n)}
	more := b.next() % 3
	me := api.Ref{ID: b.next() % 9, Key: at(4 + uint64(b.next()%12)), Vec: api.Vec{Len: n + more, Bits: w.Bits<<more | uint64(b.next())%(1<<more)}}
	from := api.Ref{ID: b.next() % 9, Key: at(uint64(b.next()) % me.Key.N)}
	if b.next()%4 == 0 {
		from = head(me.Vec.Len)
	}
	return api.SpliceConf{W: w, Me: me, From: from, Owner: api.Owner{Agent: b.next(), Op: 1 + b.next()}}
}

// right is one to the right of another; most are such as a peer would have there.
func (b *bytesOf) right(c api.SpliceConf, p api.Ref) api.Ref {
	n := b.next()
	r := api.Ref{ID: b.next() % 9}
	wrong := wrongKeys()
	switch {
	case n < 140:
		r.Key = at(p.Key.N + 1 + uint64(n%3))
	case n < 175:
		r.Key = c.Me.Key
	case n < 200:
		r.Key = at(c.Me.Key.N + 1)
	case n < 220:
		return tail(c.Me.Vec.Len)
	case n < 225:
		return c.Me
	case n < 240:
		r.Key = at(uint64(n % 16))
	default:
		r.Key = wrong[n%len(wrong)]
	}
	return r
}

// answer is one to what a splice wants.
func (b *bytesOf) answer(c api.SpliceConf, x api.Step) api.Answer {
	kinds := []api.AnswerKind{1, 1, 1, 1, 1, 1, 1, 1, 1, 2, 3, 3, 4, 0, 5, -1}
	n := b.next()
	return api.Answer{Kind: kinds[n%16], Marked: n >= 128, Left: ref(1, ""), Right: b.right(c, x.To)}
}

// whatever plays a splice against answers out of bytes, holds it against the tale, and watches it: P13.1, P13.3, P13.4. How it ends: with its error, if it does.
func whatever(t *testing.T, b bytesOf) (api.Errno, bool) {
	t.Helper()
	c := b.settings()
	s := begin(t, c)
	w := &teller{c: c}
	next, stop := iter.Pull(w.steps())
	defer stop()
	m := watch{me: c.Me}
	for steps := 0; len(b) > 0; steps++ {
		x := s.Next()
		if y, _ := next(); !same(x, y) || !same(x, s.Next()) {
			t.Fatalf("step %d of %v: wants %v; not %v", steps, c, x, y)
		}
		a := b.answer(c, x)
		m.sees(t, x, a)
		w.told = a
		switch x.Kind {
		case api.SDone:
			return x.Result.E, true
		case api.SWait:
			s.Tell(a)
			s.Wake()
		default:
			s.Wake()
			s.Tell(a)
		}
	}
	return 0, false
}

// P13.1, P13.3, P13.4: whoever answers, whatever. Each end comes.
func TestWhatever(t *testing.T) {
	d := draw(13)
	ends := map[api.Errno]int{}
	for range 20000 {
		b := make([]byte, 20+d.below(400))
		for i := range b {
			b[i] = byte(d.below(256))
		}
		if e, is := whatever(t, b); is {
			ends[e]++
		}
	}
	for _, e := range []api.Errno{api.OK, api.ErrExists, api.ErrAgain, api.ErrDead, api.ErrTaken} {
		if ends[e] < 100 {
			t.Errorf("%d ends with %d", ends[e], e)
		}
	}
}

func FuzzWhatever(f *testing.F) {
	f.Add([]byte{1, 5, 0, 7, 1, 0, 0, 1, 0, 9, 0, 200, 0, 0, 0, 0})
	f.Add([]byte("a splice locks one, looks to its right, stands in between, and tells both; but who is dead?"))
	f.Fuzz(func(t *testing.T, b []byte) {
		whatever(t, b)
	})
}
