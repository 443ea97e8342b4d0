package unsplice

import (
	"iter"
	"slices"
	"testing"

	"leapfrog/api"
)

// below tells whether a key stands ahead of another one.
func below(a, b api.Key) bool {
	return a.Rank < b.Rank || a.Rank == b.Rank && a.N < b.N
}

// draw makes numbers that look like chance, the same each time.
type draw uint64

func (d *draw) below(n int) int {
	*d = *d*6364136223846793005 + 1442695040888963407
	return int(uint64(*d)>>33) % n
}

// teller is whom a tale asks, and with whom it waits.
type teller struct {
	c     api.UnspliceConf
	told  api.Answer
	yield func(api.Step) bool
	left  bool // nobody listens any more
}

func (w *teller) ask(to api.Ref, k api.AskKind, refs ...api.Ref) api.Answer {
	w.left = w.left || !w.yield(asks(w.c, to, k, refs...))
	return w.told
}

// tale is a machine as the chapter says it, word by word, by somebody who waits for each answer: its end, or that it waits.
func (w *teller) tale() api.Step {
	x := w.c.Me
	// 1
	a := w.ask(x, api.QRead)
	switch {
	case a.Kind == 2:
		return over(0)
	case a.Kind == 3:
		return over(132)
	case a.Kind != 1 || !below(a.Left.Key, x.Key):
		return waits()
	}
	p := a.Left
	// 2
	a = w.ask(p, api.QLock)
	if a.Kind != 1 {
		return waits()
	}
	said := waits()
	if a.Right == x {
		said = w.locked(p)
	}
	// 8
	w.ask(p, api.QFree)
	return said
}

// locked is the tale from 3 on, as long as p is locked: what is said then.
func (w *teller) locked(p api.Ref) api.Step {
	x := w.c.Me
	// 3
	a := w.ask(x, api.QLock)
	switch a.Kind {
	case 1:
	case 2:
		return over(0)
	case 3:
		return over(132)
	default:
		return waits()
	}
	s, goes := a.Right, false
	// 4
	if below(x.Key, s.Key) {
		a = w.ask(p, api.QRight, s)
		goes = a.Kind == 1 || a.Kind == 3 && a.Right == s
	}
	if !goes {
		// 7
		w.ask(x, api.QFree)
		return waits()
	}
	// 5
	w.ask(s, api.QLeft, p)
	// 6
	if w.ask(x, api.QOut).Kind == 3 {
		return over(132)
	}
	return over(0)
}

// steps are all that the tale wants, its end last.
func (w *teller) steps() iter.Seq[api.Step] {
	return func(yield func(api.Step) bool) {
		w.yield = yield
		for !w.left {
			end := w.tale()
			w.left = w.left || !yield(end) || end.Kind == api.SDone
		}
	}
}

// watch holds P14.4 and P14.5 against what a machine wants and is told.
type watch struct {
	me   api.Ref
	held []api.Ref
}

func (m *watch) sees(t *testing.T, x api.Step, a api.Answer) {
	t.Helper()
	if x.Kind != api.SAsk {
		if len(m.held) > 0 {
			t.Fatalf("holds %v, and wants %v", m.held, x)
		}
		return
	}
	switch x.Ask.Kind {
	case api.QLock:
		// p's first, which is below x; then x's.
		first := len(m.held) == 0 && below(x.To.Key, m.me.Key)
		if second := len(m.held) == 1 && x.To == m.me; !first && !second {
			t.Fatalf("holds %v, and locks %v", m.held, x.To)
		}
		if a.Kind == api.AOK {
			m.held = append(m.held, x.To)
		}
	case api.QFree, api.QOut:
		i := slices.Index(m.held, x.To)
		if i < 0 || i != len(m.held)-1 {
			t.Fatalf("frees %v, and holds %v", x.To, m.held)
		}
		m.held = m.held[:i]
	case api.QRight, api.QLeft:
		if len(m.held) != 2 {
			t.Fatalf("holds %v, and wants %v", m.held, x)
		}
	}
}

// bytesOf are numbers out of bytes, zeros behind their end.
type bytesOf []byte

func (b *bytesOf) next() int {
	if len(*b) == 0 {
		return 0
	}
	n := int((*b)[0])
	*b = (*b)[1:]
	return n
}

// settings are some that may be.
func (b *bytesOf) settings() api.UnspliceConf {
	n := b.next() % 4
	w := api.Vec{Len: n, Bits: uint64(b.next()) % (1 << n)}
	more := b.next() % 3
	me := api.Ref{ID: b.next() % 9, Key: at(4 + uint64(b.next()%12)), Vec: api.Vec{Len: n + more, Bits: w.Bits<<more | uint64(b.next())%(1<<more)}}
	return api.UnspliceConf{W: w, Me: me, Owner: api.Owner{Agent: b.next(), Op: 1 + b.next()}}
}

// ref is one to the right or to the left of Me; most are such as a peer would have there.
func (b *bytesOf) ref(c api.UnspliceConf, x api.Step, right bool) api.Ref {
	n := b.next()
	r := api.Ref{ID: b.next() % 9}
	wrong := wrongKeys()
	switch {
	case right && x.Ask.Kind == api.QLock && x.To != c.Me && n < 220:
		return c.Me
	case n < 100 && right && x.Ask.Kind == api.QRight:
		return x.Ask.Ref
	case n < 200 && right:
		r.Key = at(c.Me.Key.N + 1 + uint64(n%3))
	case n < 220 && right:
		return tail(c.Me.Vec.Len)
	case n < 200:
		r.Key = at(c.Me.Key.N - 1 - uint64(n%3))
	case n < 220:
		return head(c.Me.Vec.Len)
	case n < 225:
		return c.Me
	case n < 240:
		r.Key = at(uint64(n % 16))
	default:
		r.Key = wrong[n%len(wrong)]
	}
	return r
}

// answer is one to what a machine wants.
func (b *bytesOf) answer(c api.UnspliceConf, x api.Step) api.Answer {
	kinds := []api.AnswerKind{1, 1, 1, 1, 1, 1, 1, 1, 1, 1, 2, 3, 3, 4, 0, -1}
	n := b.next()
	return api.Answer{Kind: kinds[n%16], Marked: n >= 128, Left: b.ref(c, x, false), Right: b.ref(c, x, true)}
}

// whatever plays a machine against answers out of bytes, holds it against the tale, and watches it: P14.1, P14.2, P14.4, P14.5. What it wanted last, and how many asks were between two waits at most.
func whatever(t *testing.T, b bytesOf) (api.Step, int) {
	t.Helper()
	c := b.settings()
	u := begin(t, c)
	w := &teller{c: c}
	next, stop := iter.Pull(w.steps())
	defer stop()
	m := watch{me: c.Me}
	last, most, asked := api.Step{}, 0, 0
	for steps := 0; len(b) > 0 && last.Kind != api.SDone; steps++ {
		x := u.Next()
		if y, _ := next(); !same(x, y) || !same(x, u.Next()) {
			t.Fatalf("step %d of %v: wants %v; not %v", steps, c, x, y)
		}
		a := b.answer(c, x)
		m.sees(t, x, a)
		last, w.told = x, a
		if x.Kind == api.SAsk {
			asked++
			u.Wake()
			u.Tell(a)
		} else {
			asked = 0
			u.Tell(a)
			u.Wake()
		}
		most = max(most, asked)
	}
	return last, most
}

// P14.1, P14.2, P14.4, P14.5: whoever answers, whatever. Each end comes, and waits; and it never asks more than eight times between two waits.
func TestWhatever(t *testing.T) {
	d := draw(14)
	ends := map[api.Errno]int{}
	long, waited := 0, 0
	for range 20000 {
		b := make([]byte, 20+d.below(300))
		for i := range b {
			b[i] = byte(d.below(256))
		}
		last, most := whatever(t, b)
		switch {
		case last.Kind == api.SDone:
			ends[last.Result.E]++
		case last.Kind == api.SWait:
			waited++
		}
		if most > 8 {
			t.Fatalf("%d asks", most)
		}
		if most == 7 {
			long++
		}
	}
	if ends[api.OK] < 1000 || ends[api.ErrDead] < 1000 || len(ends) != 2 || long < 1000 || waited < 100 {
		t.Errorf("ends %v; %d long ones, %d that wait", ends, long, waited)
	}
}

func FuzzWhatever(f *testing.F) {
	f.Add([]byte{1, 5, 0, 7, 1, 0, 0, 1, 0, 9, 0, 200, 0, 0, 0, 0})
	f.Add([]byte("it locks its left side, then itself, tells both sides of each other, and leaves; but who is dead?"))
	f.Fuzz(func(t *testing.T, b []byte) {
		whatever(t, b)
	})
}
