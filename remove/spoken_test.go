package remove

import (
	"iter"
	"slices"
	"testing"

	"leapfrog/api"
	"leapfrog/seek"
	"leapfrog/unsplice"
)

// below tells whether a key stands ahead of another one.
func below(a, b api.Key) bool {
	return a.Rank < b.Rank || a.Rank == b.Rank && a.N < b.N
}

// begins tells whether a vector begins with another one.
func begins(x, w api.Vec) bool {
	return x.Len >= w.Len && w.Len >= 0 && first(x, w.Len) == w
}

// draw makes numbers that look like chance, the same each time.
type draw uint64

func (d *draw) below(n int) int {
	*d = *d*6364136223846793005 + 1442695040888963407
	return int(uint64(*d)>>33) % n
}

// teller is whom a tale asks, and with whom it waits.
type teller struct {
	c      api.RemoveConf
	told   api.Answer
	yield  func(api.Step) bool
	left   bool // nobody listens any more
	marked bool
}

func (w *teller) want(x api.Step) api.Answer {
	w.left = w.left || !w.yield(x)
	return w.told
}

// plays plays a machine to its end: its result.
func (w *teller) plays(m machine) api.Result {
	for !w.left {
		x := m.Next()
		switch x.Kind {
		case 1:
			m.Tell(w.want(x))
		case 2:
			w.want(x)
			m.Wake()
		default:
			return x.Result
		}
	}
	return api.Result{}
}

// tale is a removal as the chapter says it, word by word, by somebody who waits for each answer: with what it is over.
func (w *teller) tale() api.Errno {
	// 1
	s, _ := seek.New(api.SeekConf{Height: w.c.Height, Start: w.c.Start, Target: api.Key{Rank: 2, N: w.c.Key}})
	r := w.plays(s)
	switch {
	case r.E != 0:
		return r.E
	case !r.Found:
		return 101
	}
	x := r.Right
	// 2
	switch w.want(marks(x)).Kind {
	case 1:
		w.marked = true
	case 3:
		return 132
	default:
		return 101
	}
	// 3
	for bits := x.Vec.Len; bits >= 0 && !w.left; bits-- {
		list := x.Vec
		if bits < x.Vec.Len {
			list = first(x.Vec, bits)
		}
		u, e := unsplice.New(api.UnspliceConf{W: list, Me: x, Owner: w.c.Owner})
		if e != 0 || w.plays(u).E != 0 {
			return 0
		}
	}
	return 0
}

// steps are all that the tale wants, its end last.
func (w *teller) steps() iter.Seq[api.Step] {
	return func(yield func(api.Step) bool) {
		w.yield = yield
		if e := w.tale(); !w.left {
			yield(over(e))
		}
	}
}

// spot is the place of a record: whose, and of which list.
type spot struct {
	of api.Ref
	w  api.Vec
}

// watch holds P16.4 and P16.5 against what a removal wants and is told.
type watch struct {
	key    uint64
	asked  bool // for a mark
	marked bool // it was told so
	x      api.Ref
	list   api.Vec // the last one that was asked for, behind the mark
	outs   int
	held   []spot
}

func (m *watch) sees(t *testing.T, x api.Step, a api.Answer) {
	t.Helper()
	switch {
	case x.Kind == api.SDone && m.marked != (x.Result.E == api.OK):
		t.Fatalf("marked: %t; wants %v", m.marked, x)
	case x.Kind != api.SAsk && len(m.held) > 0:
		t.Fatalf("holds %v, and wants %v", m.held, x)
	case x.Kind == api.SWait && !m.marked:
		t.Fatal("waits ahead of the mark")
	case x.Kind == api.SAsk && x.Ask.Kind == api.QMark:
		m.seesMark(t, x, a)
	case x.Kind == api.SAsk && m.marked:
		m.seesList(t, x, a)
	case x.Kind == api.SAsk && (m.asked || x.Ask.Kind != api.QRead):
		t.Fatalf("is not marked, and wants %v", x)
	}
}

// seesMark sees QMark: once at most, of a peer of the key.
func (m *watch) seesMark(t *testing.T, x api.Step, a api.Answer) {
	t.Helper()
	if m.asked || x.To.Key != at(m.key) {
		t.Fatalf("of %d wants %v; asked: %t", m.key, x, m.asked)
	}
	m.asked, m.marked, m.x, m.list = true, a.Kind == api.AOK, x.To, x.To.Vec
}

// seesList sees an ask behind the mark: of the list of the last one, or of one bit less.
func (m *watch) seesList(t *testing.T, x api.Step, a api.Answer) {
	t.Helper()
	w := x.Ask.W
	if w != m.list && (w.Len != m.list.Len-1 || !begins(m.list, w) || len(m.held) > 0 || x.Ask.Kind != api.QRead) {
		t.Fatalf("behind list %v, holding %v, wants %v", m.list, m.held, x)
	}
	if w != m.list {
		m.list, m.outs = w, 0
	}
	at := spot{x.To, w}
	switch x.Ask.Kind {
	case api.QLock:
		// p's first, which is below x; then x's.
		first := len(m.held) == 0 && below(x.To.Key, m.x.Key)
		if second := len(m.held) == 1 && x.To == m.x; !first && !second {
			t.Fatalf("holds %v, and wants %v", m.held, x)
		}
		if a.Kind == api.AOK {
			m.held = append(m.held, at)
		}
	case api.QOut:
		m.outs++
		if x.To != m.x || m.outs > 1 {
			t.Fatalf("of %v, %d times, wants %v", m.x, m.outs, x)
		}
		m.frees(t, at)
	case api.QFree:
		m.frees(t, at)
	}
}

func (m *watch) frees(t *testing.T, at spot) {
	t.Helper()
	i := slices.Index(m.held, at)
	if i < 0 {
		t.Fatalf("holds %v, and gives back %v", m.held, at)
	}
	m.held = slices.Delete(m.held, i, i+1)
}

// bytesOf are numbers out of bytes, zeros behind their end.
type bytesOf []byte

func (b *bytesOf) next() int {
	if len(*b) == 0 {
		return 0
	}
	n := int((*b)[0])
	*b = (*b)[1:]
	return n
}

// vec is a vector of so many bits.
func (b *bytesOf) vec(n int) api.Vec {
	return api.Vec{Len: n, Bits: uint64(b.next()) % (1 << n)}
}

// settings are some that may be.
func (b *bytesOf) settings() api.RemoveConf {
	n := b.next() % 5
	c := api.RemoveConf{Height: n, Key: 8 + uint64(b.next()%12), Owner: api.Owner{Agent: b.next(), Op: 1 + b.next()}}
	switch b.next() % 4 {
	case 0:
		c.Start = low(n)
	case 1:
		c.Start = high(n)
	default:
		c.Start = api.Ref{ID: b.next() % 9, Key: at(uint64(b.next() % 30)), Vec: b.vec(n)}
	}
	return c
}

// right is one to the right of whom is asked; most are such as a peer would have there.
func (b *bytesOf) right(c api.RemoveConf, x api.Step, found api.Ref) api.Ref {
	n := b.next()
	r := api.Ref{ID: b.next() % 9, Vec: b.vec(b.next() % 5)}
	wrongs, vecs := wrongKeys(), wrongVecs()
	switch {
	case x.Ask.Kind == api.QLock && x.To != found && n < 230:
		return found
	case x.Ask.Kind == api.QRight && n < 128:
		return x.Ask.Ref
	case n < 80:
		r.Key = at(x.To.Key.N + 1 + uint64(n%3))
	case n < 90:
		r.Key, r.Vec = at(c.Key), vecs[n%len(vecs)]
	case n < 200 && x.Ask.Kind == api.QRead:
		r.Key = at(c.Key)
	case n < 225:
		return high(c.Height)
	case n < 230:
		return found
	case n < 245:
		r.Key = at(uint64(n % 30))
	default:
		r.Key = wrongs[n%len(wrongs)]
	}
	return r
}

// left is one to the left.
func (b *bytesOf) left(c api.RemoveConf, x api.Step) api.Ref {
	n := b.next()
	r := api.Ref{ID: b.next() % 9, Vec: b.vec(b.next() % 5)}
	wrongs := wrongKeys()
	switch {
	case n < 190:
		r.Key = at(x.To.Key.N - 1 - uint64(n%3))
	case n < 230:
		return low(c.Height)
	case n < 240:
		r.Key = at(uint64(n % 30))
	default:
		r.Key = wrongs[n%len(wrongs)]
	}
	return r
}

// answer is one to what a removal wants; by its mood some asks of a kind are hardly ever answered AOK, or all are.
func (b *bytesOf) answer(c api.RemoveConf, x api.Step, found api.Ref, mood int) api.Answer {
	kinds := []api.AnswerKind{1, 1, 1, 1, 1, 1, 1, 1, 1, 1, 1, 2, 3, 4, 0, -1}
	n := b.next()
	k := kinds[n%16]
	if n < 250 && mood%16 == int(x.Ask.Kind) {
		k = kinds[11+n%5]
	} else if mood >= 64 && n%64 != 63 {
		k = 1
	}
	return api.Answer{Kind: k, Marked: n >= 128, Left: b.left(c, x), Right: b.right(c, x, found)}
}

// whatever plays a removal against answers out of bytes, holds it against the tale, and watches it: P16.1, P16.2, P16.4, P16.5. What it wanted last, and what the watch saw.
func whatever(t *testing.T, b bytesOf) (api.Step, watch) {
	t.Helper()
	c, mood := b.settings(), b.next()
	m := begin(t, c)
	w := &teller{c: c}
	next, stop := iter.Pull(w.steps())
	defer stop()
	saw := watch{key: c.Key}
	last := api.Step{}
	for steps := 0; len(b) > 0 && last.Kind != api.SDone; steps++ {
		x := m.Next()
		if y, _ := next(); !same(x, y) || !same(x, m.Next()) || m.Marked() != w.marked {
			t.Fatalf("step %d of %v: wants %v; not %v; marked: %t", steps, c, x, y, m.Marked())
		}
		a := b.answer(c, x, saw.x, mood)
		saw.sees(t, x, a)
		last, w.told = x, a
		if x.Kind == api.SAsk {
			m.Wake()
			m.Tell(a)
		} else {
			m.Tell(a)
			m.Wake()
		}
	}
	return last, saw
}

// P16.1, P16.2, P16.4, P16.5: whoever answers, whatever. Each end comes.
func TestWhatever(t *testing.T) {
	d := draw(16)
	over := map[api.Errno]int{}
	whole, waited, none := 0, 0, 0
	for range 8000 {
		b := make([]byte, 20+d.below(2000))
		for i := range b {
			b[i] = byte(d.below(256))
		}
		last, saw := whatever(t, b)
		switch last.Kind {
		case api.SWait:
			waited++
		case api.SDone:
			over[last.Result.E]++
		}
		if saw.marked && saw.x.Vec.Len > 2 && saw.list.Len == 0 {
			whole++
		}
		if saw.marked && (saw.x.Vec.Len > 32 || saw.x.Vec.Len < 0) {
			none++
		}
	}
	for _, e := range []api.Errno{api.OK, api.ErrAbsent, api.ErrBusy, api.ErrDead} {
		if over[e] < 100 {
			t.Errorf("%d end with %d", over[e], e)
		}
	}
	if len(over) != 4 || whole < 200 || waited < 10 || none < 20 {
		t.Errorf("%v; %d of more than two lists, %d that wait, %d without a list", over, whole, waited, none)
	}
}

func FuzzWhatever(f *testing.F) {
	f.Add([]byte{1, 5, 0, 7, 1, 0, 0, 1, 0, 9, 0, 200, 0, 0, 0, 0})
	f.Add([]byte("it searches, marks whom it finds, and takes it out of its lists, the highest first; but who is dead?"))
	f.Fuzz(func(t *testing.T, b []byte) {
		whatever(t, b)
	})
}
