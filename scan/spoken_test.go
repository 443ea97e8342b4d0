package scan

import (
	"iter"
	"testing"

	"leapfrog/api"
	"leapfrog/seek"
)

// draw makes numbers that look like chance, the same each time.
type draw uint64

func (d *draw) below(n int) int {
	*d = *d*6364136223846793005 + 1442695040888963407
	return int(uint64(*d)>>33) % n
}

// teller is whom a tale asks, and with whom it waits.
type teller struct {
	c     api.ScanConf
	told  api.Answer
	yield func(api.Step) bool
	left  bool // nobody listens any more
	from  api.Key
	items []api.Item
	tries int
	dead  int // how often a search went on over the dead
}

func (w *teller) want(x api.Step) api.Answer {
	w.left = w.left || !w.yield(x)
	return w.told
}

// tale is a scan as the chapter says it, word by word, by somebody who waits for each answer: with what it is over.
func (w *teller) tale() api.Result {
	if w.c.Low > w.c.High {
		return api.Result{}
	}
	for w.from = at(w.c.Low); !w.left; w.tries++ {
		if r, is := w.seeks(); is {
			return r
		}
		if w.tries == 64 {
			return api.Result{E: 121}
		}
	}
	return api.Result{}
}

// seeks plays a search, and goes right from whom it finds, till it is over, or is to seek again.
func (w *teller) seeks() (api.Result, bool) {
	s, _ := seek.New(api.SeekConf{Height: w.c.Height, Start: w.c.Start, Target: w.from})
	for !w.left {
		for s.Next().Kind != 3 && !w.left {
			s.Tell(w.want(s.Next()))
		}
		r := s.Next().Result
		if r.E != 0 {
			return api.Result{E: r.E}, true
		}
		will, r, is := w.rights(r.Right)
		if will.Kind != 3 {
			return r, is
		}
		s.Dead(will)
		w.dead++
	}
	return api.Result{}, false
}

// rights goes right from whom a search found: till that is dead, or it is over, or is to seek again.
func (w *teller) rights(x api.Ref) (api.Answer, api.Result, bool) {
	for sought := true; !w.left; sought = false {
		if below(at(w.c.High), x.Key) {
			return api.Answer{}, api.Result{Items: w.items}, true
		}
		a := w.want(gets(x))
		switch {
		case a.Kind == 1 && !a.Marked && len(w.items) == 64:
			return api.Answer{}, api.Result{E: 102}, true
		case a.Kind == 1 && !a.Marked:
			w.items = append(w.items, api.Item{Key: x.Key.N, Value: a.Value})
		case a.Kind == 1:
		case a.Kind == 3 && sought:
			return a, api.Result{}, false
		default:
			w.want(waits())
			return api.Answer{}, api.Result{}, false
		}
		w.from = at(x.Key.N + 1)
		if x.Key.N == top {
			w.from = highest
		}
		if !below(x.Key, a.Right.Key) {
			return api.Answer{}, api.Result{}, false
		}
		x = a.Right
	}
	return api.Answer{}, api.Result{}, false
}

// steps are all that the tale wants, its end last.
func (w *teller) steps() iter.Seq[api.Step] {
	return func(yield func(api.Step) bool) {
		w.yield = yield
		if r := w.tale(); !w.left {
			yield(api.Step{Kind: 3, Result: r})
		}
	}
}

// watch holds P18.5 against what a scan wants, and its end against what it was told.
type watch struct {
	c      api.ScanConf
	last   api.Step
	told   api.Answer // to that
	given  []api.Item // by whom it asked QGet
	gets   int
	waited int
}

func (m *watch) sees(t *testing.T, x api.Step, a api.Answer) {
	t.Helper()
	switch {
	case x.Kind == api.SDone:
		m.seesEnd(t, x.Result)
	case x.Kind == api.SWait:
		if m.last.Ask.Kind != api.QGet {
			t.Fatalf("of %v waits behind %v", m.c, m.last)
		}
		m.waited++
	case x.Kind != api.SAsk, x.Ask.Kind != api.QRead && x.Ask.Kind != api.QGet:
		t.Fatalf("of %v wants %v", m.c, x)
	case x.Ask != (api.Ask{Kind: x.Ask.Kind, W: x.Ask.W}) || x.Ask.Kind == api.QGet && x.Ask.W != api.Vec{}:
		t.Fatalf("of %v wants %v", m.c, x)
	case x.Ask.Kind == api.QGet:
		m.seesGet(t, x, a)
	}
	m.last, m.told = x, a
}

// seesGet sees an ask for a value: nobody is asked who is beside the range, or not behind those that were told.
func (m *watch) seesGet(t *testing.T, x api.Step, a api.Answer) {
	t.Helper()
	k := x.To.Key
	if k.Rank != api.RAt || k.N < m.c.Low || k.N > m.c.High || len(m.given) > 0 && k.N <= m.given[len(m.given)-1].Key {
		t.Fatalf("of %v gets %v behind %v", m.c, x.To, m.given)
	}
	m.gets++
	if a.Kind == api.AOK && !a.Marked {
		m.given = append(m.given, api.Item{Key: k.N, Value: a.Value})
	}
}

// seesEnd sees a result: the items are all that were given.
func (m *watch) seesEnd(t *testing.T, r api.Result) {
	t.Helper()
	want := api.Result{E: r.E}
	switch {
	case r.E == api.OK:
		want.Items = m.given
	case r.E == api.ErrLarge && len(m.given) <= api.MaxRange:
		t.Fatalf("of %v: %d behind %v", m.c, r.E, m.given)
	}
	if !same(api.Step{Result: r}, api.Step{Result: want}) || len(r.Items) > api.MaxRange {
		t.Fatalf("of %v, behind %v told %v: %v; not %v", m.c, m.last, m.told, r, want)
	}
}

// bytesOf are numbers out of bytes, zeros behind their end.
type bytesOf []byte

func (b *bytesOf) next() int {
	if len(*b) == 0 {
		return 0
	}
	n := int((*b)[0])
	*b = (*b)[1:]
	return n
}

// vec is a vector of so many bits.
func (b *bytesOf) vec(n int) api.Vec {
	return api.Vec{Len: n, Bits: uint64(b.next()) % (1 << n)}
}

// confs are some settings that may be.
func (b *bytesOf) confs() api.ScanConf {
	n := b.next() % 5
	c := api.ScanConf{Height: n, Start: low(n), Low: 8 + uint64(b.next()%12)}
	switch k := b.next(); {
	case k < 8:
		c.High = c.Low - 1
	case k < 20:
		c.Low, c.High = top-uint64(k), top
	default:
		c.High = c.Low + uint64(k)
	}
	switch b.next() % 4 {
	case 0:
		c.Start = high(n)
	case 1:
		c.Start = api.Ref{ID: b.next() % 9, Key: at(uint64(b.next() % 99)), Vec: b.vec(n)}
	}
	return c
}

// right is one to the right of whom is asked; most are such as a peer would have there; by its mood that is hardly ever the tail.
func (b *bytesOf) right(c api.ScanConf, from api.Key, x api.Step, mood int) api.Ref {
	n := b.next()
	r := api.Ref{ID: b.next() % 12, Vec: b.vec(b.next() % 5)}
	wrongs, vecs := wrongKeys(), wrongVecs()
	next := uint64(1)
	if x.To.Key.Rank == api.RAt {
		next = x.To.Key.N + 1 // behind the greatest one that is 0
	}
	switch get := x.Ask.Kind == api.QGet; {
	case get && n < 240:
		r.Key = at(next + uint64(n%2))
	case n < 40:
		r.Key = at(next + uint64(n%3))
	case n < 200:
		r.Key = at(from.N + uint64(n%3))
	case n < 210:
		r.Key, r.Vec = from, vecs[n%len(vecs)]
	case n < 225 && (mood >= 128 || n < 211 && mood >= 32):
		return high(c.Height)
	case n < 225:
		r.Key = from
	case n < 235:
		return x.To
	case n < 251:
		r.Key = at(uint64(n % 30))
	default:
		r.Key = wrongs[n%len(wrongs)]
	}
	return r
}

// left is one to the left.
func (b *bytesOf) left(c api.ScanConf, x api.Step) api.Ref {
	n := b.next()
	r := api.Ref{ID: b.next() % 9, Vec: b.vec(b.next() % 5)}
	wrongs := wrongKeys()
	switch {
	case n < 190:
		r.Key = at(x.To.Key.N - 1 - uint64(n%3))
	case n < 230:
		return low(c.Height)
	case n < 240:
		r.Key = at(uint64(n % 30))
	default:
		r.Key = wrongs[n%len(wrongs)]
	}
	return r
}

// answer is one to what a scan wants; by its mood QGet is answered AOK nearly always, or hardly ever, or by the dead, or by those that are marked.
func (b *bytesOf) answer(c api.ScanConf, from api.Key, x api.Step, mood int) api.Answer {
	kinds := []api.AnswerKind{1, 1, 1, 1, 1, 1, 1, 1, 1, 1, 1, 2, 3, 3, 4, 0, -1}
	n := b.next()
	k := kinds[n%17]
	switch get := x.Ask.Kind == api.QGet; {
	case get && mood%4 == 0 && n < 253:
		k = api.AOK
	case get && mood%4 == 1 && n < 253:
		k = kinds[11+n%6]
	case get && mood%4 == 2 && n < 150:
		k = api.ADead
	case !get && mood >= 64 && n%64 != 63:
		k = api.AOK
	}
	a := api.Answer{Kind: k, Marked: n%8 < mood/4%8, Left: b.left(c, x), Right: b.right(c, from, x, mood)}
	for range n % 4 {
		a.Value = append(a.Value, byte(b.next()))
	}
	return a
}

// whatever plays a scan against answers out of bytes, holds it against the tale, and watches it: P18.1 to P18.3, P18.5. What it wanted last, what the watch saw, and the tale.
func whatever(t *testing.T, b bytesOf) (api.Step, watch, *teller) {
	t.Helper()
	c, mood := b.confs(), b.next()
	m := begin(t, c)
	w := &teller{c: c}
	next, stop := iter.Pull(w.steps())
	defer stop()
	saw := watch{c: c}
	last := api.Step{}
	for steps := 0; len(b) > 0 && last.Kind != api.SDone; steps++ {
		x := m.Next()
		if y, _ := next(); !same(x, y) || !same(x, m.Next()) || m.Tries() != w.tries {
			t.Fatalf("step %d of %v: wants %v, %d tries; not %v, %d", steps, c, x, m.Tries(), y, w.tries)
		}
		a := b.answer(c, w.from, x, mood)
		saw.sees(t, x, a)
		last, w.told = x, a
		if x.Kind == api.SAsk {
			m.Wake()
			m.Tell(a)
		} else {
			m.Tell(a)
			m.Wake()
		}
	}
	return last, saw, w
}

// P18.1 to P18.3, P18.5: whoever answers, whatever. Each end comes, by each way.
func TestWhatever(t *testing.T) {
	d := draw(18)
	over := map[api.Errno]int{}
	waited, gets, dead, far, last, often := 0, 0, 0, 0, 0, 0
	for range 5000 {
		b := make([]byte, 20+d.below(8000))
		for i := range b {
			b[i] = byte(d.below(256))
		}
		end, saw, w := whatever(t, b)
		if end.Kind == api.SDone {
			over[end.Result.E]++
		}
		waited += saw.waited
		gets += saw.gets
		dead += w.dead
		if end.Kind == api.SDone && len(end.Result.Items) > 10 {
			far++
		}
		if w.from == highest {
			last++
		}
		if w.tries == 64 {
			often++
		}
	}
	for _, e := range []api.Errno{api.OK, api.ErrLarge, api.ErrBusy} {
		if over[e] < 100 {
			t.Errorf("%d end with %d", over[e], e)
		}
	}
	if len(over) != 3 || waited < 2000 || gets < 2000 || dead < 2000 || far < 100 || last < 20 || often < 100 {
		t.Errorf("%v; %d waits, %d QGet, %d of the dead; %d of more than ten items, %d behind the greatest key, %d seek as often as they may", over, waited, gets, dead, far, last, often)
	}
}

func FuzzWhatever(f *testing.F) {
	f.Add([]byte{1, 5, 0, 7, 1, 0, 0, 1, 0, 9, 0, 200, 0, 0, 0, 0})
	f.Add([]byte("it seeks, gets whom it finds, and goes right from one to the next, past the marked ones, till it is above; but who is there?"))
	f.Fuzz(func(t *testing.T, b []byte) {
		whatever(t, b)
	})
}
