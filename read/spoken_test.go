package read

import (
	"iter"
	"testing"

	"leapfrog/api"
	"leapfrog/seek"
)

// below tells whether a key stands ahead of another one.
func below(a, b api.Key) bool {
	return a.Rank < b.Rank || a.Rank == b.Rank && a.N < b.N
}

// draw makes numbers that look like chance, the same each time.
type draw uint64

func (d *draw) below(n int) int {
	*d = *d*6364136223846793005 + 1442695040888963407
	return int(uint64(*d)>>33) % n
}

// teller is whom a tale asks, and with whom it waits.
type teller struct {
	c     api.ReadConf
	told  api.Answer
	yield func(api.Step) bool
	left  bool // nobody listens any more
	wills map[int]api.Ref
	most  int // how many wills it went over at once, at most
}

func (w *teller) want(x api.Step) api.Answer {
	w.left = w.left || !w.yield(x)
	return w.told
}

// seeks plays a search to its end: its result.
func (w *teller) seeks() api.Result {
	s, _ := seek.New(api.SeekConf{Height: w.c.Height, Start: w.c.Start, Target: api.Key{Rank: 2, N: w.c.Key}})
	for s.Next().Kind != 3 && !w.left {
		s.Tell(w.want(s.Next()))
	}
	return s.Next().Result
}

// tale is a reading as the chapter says it, word by word, by somebody who waits for each answer: with what it is over.
func (w *teller) tale() api.Result {
	for tries := 0; tries <= 64 && !w.left; tries++ {
		// 1
		r := w.seeks()
		p, s := r.Left, r.Right
		switch {
		case r.E != 0:
			return api.Result{E: r.E}
		case !w.c.Ceil && !r.Found, w.c.Ceil && s.Key.Rank == 3:
			return api.Result{E: 101}
		}
		if r, is := w.tries(p, s); is {
			return r
		}
	}
	return api.Result{E: 121}
}

// tries goes on between two, till it is over, or begins again.
func (w *teller) tries(p, s api.Ref) (api.Result, bool) {
	for !w.left {
		// 2
		a := w.want(gets(s))
		switch {
		case a.Kind == 1 && !a.Marked:
			return api.Result{Key: s.Key.N, Value: a.Value, Found: true}, true
		case !w.c.Ceil:
			return api.Result{E: 101}, true
		case a.Kind != 3:
			w.want(waits())
			return api.Result{}, false
		}
		w.wills[s.ID] = a.Right
		// 3
		a = w.want(reads(p, api.Vec{}))
		if a.Kind != 1 {
			return api.Result{}, false
		}
		s = a.Right
		if !below(p.Key, s.Key) {
			return api.Result{}, false
		}
		for n := 1; ; n++ {
			will, kept := w.wills[s.ID]
			if !kept {
				break
			}
			if !below(s.Key, will.Key) {
				return api.Result{}, false
			}
			s, w.most = will, max(w.most, n)
		}
		switch {
		case s.Key.Rank == 3:
			return api.Result{E: 101}, true
		case below(s.Key, at(w.c.Key)):
			return api.Result{}, false
		}
	}
	return api.Result{}, false
}

// steps are all that the tale wants, its end last.
func (w *teller) steps() iter.Seq[api.Step] {
	return func(yield func(api.Step) bool) {
		w.yield = yield
		if r := w.tale(); !w.left {
			yield(api.Step{Kind: 3, Result: r})
		}
	}
}

// watch holds P17.3 against what a reading wants, and its end against what it was told.
type watch struct {
	c      api.ReadConf
	last   api.Step
	told   api.Answer // to that
	gets   int
	waited int
	reads  int // behind QGet
}

func (m *watch) sees(t *testing.T, x api.Step, a api.Answer) {
	t.Helper()
	switch {
	case x.Kind == api.SDone:
		m.seesEnd(t, x.Result)
	case x.Kind == api.SWait:
		if !m.c.Ceil || m.last.Ask.Kind != api.QGet {
			t.Fatalf("of %v waits behind %v", m.c, m.last)
		}
		m.waited++
	case x.Kind != api.SAsk, x.Ask.Kind != api.QRead && x.Ask.Kind != api.QGet:
		t.Fatalf("of %v wants %v", m.c, x)
	case x.Ask != (api.Ask{Kind: x.Ask.Kind, W: x.Ask.W}) || x.Ask.Kind == api.QGet && x.Ask.W != api.Vec{}:
		t.Fatalf("of %v wants %v", m.c, x)
	case x.Ask.Kind == api.QGet && below(x.To.Key, at(m.c.Key)), x.Ask.Kind == api.QGet && !m.c.Ceil && x.To.Key != at(m.c.Key):
		t.Fatalf("of %v wants %v", m.c, x)
	case x.Ask.Kind == api.QGet:
		m.gets++
	case m.last.Ask.Kind == api.QGet:
		m.reads++
	}
	m.last, m.told = x, a
}

// seesEnd sees a result: what was found was told just now.
func (m *watch) seesEnd(t *testing.T, r api.Result) {
	t.Helper()
	found := m.last.Ask.Kind == api.QGet && m.told.Kind == api.AOK && !m.told.Marked
	if r.Found != found || r.Found != (r.E == api.OK) {
		t.Fatalf("of %v, behind %v told %v: %v", m.c, m.last, m.told, r)
	}
	if found && (r.Key != m.last.To.Key.N || string(r.Value) != string(m.told.Value)) {
		t.Fatalf("of %v, behind %v told %v: %v", m.c, m.last, m.told, r)
	}
}

// bytesOf are numbers out of bytes, zeros behind their end.
type bytesOf []byte

func (b *bytesOf) next() int {
	if len(*b) == 0 {
		return 0
	}
	n := int((*b)[0])
	*b = (*b)[1:]
	return n
}

// vec is a vector of so many bits.
func (b *bytesOf) vec(n int) api.Vec {
	return api.Vec{Len: n, Bits: uint64(b.next()) % (1 << n)}
}

// settings are some that may be.
func (b *bytesOf) settings() api.ReadConf {
	n := b.next() % 5
	c := api.ReadConf{Height: n, Key: 8 + uint64(b.next()%12), Ceil: b.next()%4 > 0}
	switch b.next() % 4 {
	case 0:
		c.Start = low(n)
	case 1:
		c.Start = high(n)
	default:
		c.Start = api.Ref{ID: b.next() % 9, Key: at(uint64(b.next() % 30)), Vec: b.vec(n)}
	}
	return c
}

// right is one to the right of whom is asked; most are such as a peer would have there; by its mood that is hardly ever the tail.
func (b *bytesOf) right(c api.ReadConf, x api.Step, mood int) api.Ref {
	n := b.next()
	r := api.Ref{ID: b.next() % 12, Vec: b.vec(b.next() % 5)}
	wrongs, vecs := wrongKeys(), wrongVecs()
	switch {
	case n < 90:
		r.Key = at(x.To.Key.N + 1 + uint64(n%3))
	case n < 100:
		r.Key, r.Vec = at(c.Key), vecs[n%len(vecs)]
	case n < 190:
		r.Key = at(c.Key + uint64(n%4))
	case n < 215 && (mood%32 < 8 || n < 191):
		return high(c.Height)
	case n < 215:
		r.Key = at(x.To.Key.N + 1 + uint64(n%2))
	case n < 220:
		return x.To
	case n < 250:
		r.Key = at(uint64(n % 30))
	default:
		r.Key = wrongs[n%len(wrongs)]
	}
	return r
}

// left is one to the left.
func (b *bytesOf) left(c api.ReadConf, x api.Step) api.Ref {
	n := b.next()
	r := api.Ref{ID: b.next() % 9, Vec: b.vec(b.next() % 5)}
	wrongs := wrongKeys()
	switch {
	case n < 190:
		r.Key = at(x.To.Key.N - 1 - uint64(n%3))
	case n < 230:
		return low(c.Height)
	case n < 240:
		r.Key = at(uint64(n % 30))
	default:
		r.Key = wrongs[n%len(wrongs)]
	}
	return r
}

// answer is one to what a reading wants; by its mood QGet is hardly ever answered AOK, or by the dead, or the others are.
func (b *bytesOf) answer(c api.ReadConf, x api.Step, mood int) api.Answer {
	kinds := []api.AnswerKind{1, 1, 1, 1, 1, 1, 1, 1, 1, 1, 1, 2, 3, 3, 4, 0, -1}
	n := b.next()
	k := kinds[n%17]
	switch get := x.Ask.Kind == api.QGet; {
	case get && mood%4 > 1 && n < 240:
		k = api.ADead
	case get && mood%4 == 1 && n < 250:
		k = kinds[11+n%6]
	case !get && mood >= 64 && n%64 != 63:
		k = 1
	}
	a := api.Answer{Kind: k, Marked: n >= 128, Left: b.left(c, x), Right: b.right(c, x, mood)}
	for range n % 4 {
		a.Value = append(a.Value, byte(b.next()))
	}
	return a
}

// whatever plays a reading against answers out of bytes, holds it against the tale, and watches it: P17.1, P17.3. What it wanted last, what the watch saw, and the tale.
func whatever(t *testing.T, b bytesOf) (api.Step, watch, *teller) {
	t.Helper()
	c, mood := b.settings(), b.next()
	m := begin(t, c)
	w := &teller{c: c, wills: map[int]api.Ref{}}
	next, stop := iter.Pull(w.steps())
	defer stop()
	saw := watch{c: c}
	last := api.Step{}
	for steps := 0; len(b) > 0 && last.Kind != api.SDone; steps++ {
		x := m.Next()
		if y, _ := next(); !same(x, y) || !same(x, m.Next()) {
			t.Fatalf("step %d of %v: wants %v; not %v", steps, c, x, y)
		}
		a := b.answer(c, x, mood)
		saw.sees(t, x, a)
		last, w.told = x, a
		if x.Kind == api.SAsk {
			m.Wake()
			m.Tell(a)
		} else {
			m.Tell(a)
			m.Wake()
		}
	}
	return last, saw, w
}

// P17.1, P17.3: whoever answers, whatever. Each end comes, by each way.
func TestWhatever(t *testing.T) {
	d := draw(17)
	over := map[api.Errno]int{}
	waited, reads, gets, far := 0, 0, 0, 0
	for range 8000 {
		b := make([]byte, 20+d.below(3000))
		for i := range b {
			b[i] = byte(d.below(256))
		}
		last, saw, w := whatever(t, b)
		if last.Kind == api.SDone {
			over[last.Result.E]++
		}
		waited += saw.waited
		reads += saw.reads
		gets += saw.gets
		if w.most > 2 {
			far++
		}
	}
	for _, e := range []api.Errno{api.OK, api.ErrAbsent, api.ErrBusy} {
		if over[e] < 100 {
			t.Errorf("%d end with %d", over[e], e)
		}
	}
	if len(over) != 3 || waited < 2000 || reads < 2000 || gets < 2000 || far < 100 {
		t.Errorf("%v; %d waits, %d QGet, %d QRead behind one; %d go over more than two wills", over, waited, gets, reads, far)
	}
}

func FuzzWhatever(f *testing.F) {
	f.Add([]byte{1, 5, 0, 7, 1, 0, 0, 1, 0, 9, 0, 200, 0, 0, 0, 0})
	f.Add([]byte("it seeks, gets whom it finds, and goes on over the dead by their wills, to the least one above; but who is there?"))
	f.Fuzz(func(t *testing.T, b []byte) {
		whatever(t, b)
	})
}
