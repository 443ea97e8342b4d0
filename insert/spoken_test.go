package insert

import (
	"iter"
	"slices"
	"testing"

	"leapfrog/api"
	"leapfrog/seek"
	"leapfrog/splice"
)

// below tells whether a key stands ahead of another one.
func below(a, b api.Key) bool {
	return a.Rank < b.Rank || a.Rank == b.Rank && a.N < b.N
}

// isKey tells whether a key may be.
func isKey(k api.Key) bool {
	return k.Rank == 2 || k.N == 0 && (k.Rank == 1 || k.Rank == 3)
}

// begins tells whether a vector may be, and begins with one that may.
func begins(x, w api.Vec) bool {
	return x.Len >= w.Len && x.Len <= 32 && x.Bits < 1<<x.Len && x.Bits>>(x.Len-w.Len) == w.Bits
}

// draw makes numbers that look like chance, the same each time.
type draw uint64

func (d *draw) below(n int) int {
	*d = *d*6364136223846793005 + 1442695040888963407
	return int(uint64(*d)>>33) % n
}

// teller is whom a tale asks, and with whom it waits.
type teller struct {
	c     api.InsertConf
	told  api.Answer
	yield func(api.Step) bool
	left  bool // nobody listens any more
}

func (w *teller) want(x api.Step) api.Answer {
	w.left = w.left || !w.yield(x)
	return w.told
}

// plays plays a machine to its end: its result.
func (w *teller) plays(m machine) api.Result {
	for !w.left {
		x := m.Next()
		switch x.Kind {
		case 1:
			m.Tell(w.want(x))
		case 2:
			w.want(x)
			m.Wake()
		default:
			return x.Result
		}
	}
	return api.Result{}
}

// spliced plays a splice of a level, from somebody: its error.
func (w *teller) spliced(level int, from api.Ref) api.Errno {
	s, _ := splice.New(api.SpliceConf{W: first(w.c.Me.Vec, level), Me: w.c.Me, From: from, Owner: w.c.Owner})
	return w.plays(s).E
}

// tale is an insertion as the chapter says it, word by word, by somebody who waits for each answer: with what it is over.
func (w *teller) tale() api.Errno {
	from := w.c.Start
	for searches := 1; !w.left; searches++ {
		// Seek
		s, _ := seek.New(api.SeekConf{Height: w.c.Height, Start: from, Target: w.c.Me.Key})
		r := w.plays(s)
		if r.E != 0 {
			return r.E
		}
		// Splice of level 0
		switch e := w.spliced(0, r.Left); e {
		case 0:
			return w.rises()
		case 100, 132, 133:
			return e
		}
		// 131
		if searches == 64 {
			return 121
		}
		from = low(w.c.Height)
	}
	return 0
}

// rises is the tale from the Walk of level 1 on.
func (w *teller) rises() api.Errno {
	for level := 1; level <= w.c.Height; level++ {
		// Walk
		from, dead := w.walked(level)
		if dead {
			return 132
		}
		// Splice
		e := w.spliced(level, from)
		for e == 131 && !w.left {
			e = w.spliced(level, low(w.c.Height))
		}
		if e == 100 || e == 132 {
			return e
		}
	}
	// Join
	if w.want(joins(w.c)).Kind == 3 {
		return 132
	}
	return 0
}

// walked is the tale of a Walk: from whom the splice is, or that Me is dead.
func (w *teller) walked(level int) (api.Ref, bool) {
	h := low(w.c.Height)
	for on := w.c.Me; !w.left; {
		a := w.want(below1(w.c, level, on))
		if a.Kind == 3 && on == w.c.Me {
			return h, true
		}
		if a.Kind != 1 || !isKey(a.Left.Key) || !below(a.Left.Key, on.Key) {
			return h, false
		}
		if a.Left.Key.Rank == 1 || begins(a.Left.Vec, first(w.c.Me.Vec, level)) {
			return a.Left, false
		}
		on = a.Left
	}
	return h, false
}

// steps are all that the tale wants, its end last.
func (w *teller) steps() iter.Seq[api.Step] {
	return func(yield func(api.Step) bool) {
		w.yield = yield
		if e := w.tale(); !w.left {
			yield(over(e))
		}
	}
}

// spot is the place of a record: whose, and of which list.
type spot struct {
	of api.Ref
	w  api.Vec
}

// watch holds P15.3 and P15.4 against what an insertion wants and is told.
type watch struct {
	me   api.Ref
	held []spot
	in   []api.Vec // lists into which Me was put
}

func (m *watch) sees(t *testing.T, x api.Step, a api.Answer) {
	t.Helper()
	if x.Kind != api.SAsk {
		if len(m.held) > 0 {
			t.Fatalf("holds %v, and wants %v", m.held, x)
		}
		if e := x.Result.E; (e == api.ErrExists || e == api.ErrBusy) && len(m.in) > 0 {
			t.Fatalf("is in %v, and wants %v", m.in, x)
		}
		return
	}
	at := spot{x.To, x.Ask.W}
	switch x.Ask.Kind {
	case api.QLock:
		if a.Kind == api.AOK {
			m.held = append(m.held, at)
		}
	case api.QRec:
		if a.Kind == api.AOK {
			m.held, m.in = append(m.held, at), append(m.in, x.Ask.W)
		}
	case api.QOut:
		m.in = slices.DeleteFunc(m.in, func(w api.Vec) bool { return w == x.Ask.W })
		fallthrough
	case api.QFree:
		if !slices.Contains(m.held, at) {
			t.Fatalf("holds %v, and wants %v", m.held, x)
		}
		m.frees(at)
	case api.QRight:
		// Who is dead holds no lock.
		if a.Kind == api.ADead {
			m.frees(at)
		}
	}
}

func (m *watch) frees(at spot) {
	m.held = slices.DeleteFunc(m.held, func(s spot) bool { return s == at })
}

// bytesOf are numbers out of bytes, zeros behind their end.
type bytesOf []byte

func (b *bytesOf) next() int {
	if len(*b) == 0 {
		return 0
	}
	n := int((*b)[0])
	*b = (*b)[1:]
	return n
}

// vec is a vector of so many bits.
func (b *bytesOf) vec(n int) api.Vec {
	return api.Vec{Len: n, Bits: uint64(b.next()) % (1 << n)}
}

// settings are some that may be.
func (b *bytesOf) settings() api.InsertConf {
	n := b.next() % 5
	me := api.Ref{ID: b.next() % 9, Key: at(8 + uint64(b.next()%12)), Vec: b.vec(n)}
	start := api.Ref{ID: b.next() % 9, Key: at(uint64(b.next() % 30)), Vec: b.vec(n)}
	switch b.next() % 4 {
	case 0:
		start = low(n)
	case 1:
		start = high(n)
	}
	return api.InsertConf{Height: n, Me: me, Start: start, Owner: api.Owner{Agent: b.next(), Op: 1 + b.next()}}
}

// ref is one to the right or to the left of another; most are such as a peer would have there.
func (b *bytesOf) ref(c api.InsertConf, on api.Ref, right bool) api.Ref {
	n := b.next()
	r := api.Ref{ID: b.next() % 9, Vec: b.vec(b.next() % 5)}
	wrongs, vecs := wrongKeys(), wrongVecs()
	switch {
	case n < 110 && right:
		r.Key = at(on.Key.N + 1 + uint64(n%3))
	case n < 110:
		r.Key = at(on.Key.N - 1 - uint64(n%3))
	case n < 150 && right:
		r.Key = at(c.Me.Key.N + 1)
	case n < 180 && right:
		return high(c.Height)
	case n < 140:
		r.Key, r.Vec = at(on.Key.N-1), c.Me.Vec
	case n < 180:
		return low(c.Height)
	case n < 205:
		r.Key = c.Me.Key
	case n < 212:
		return c.Me
	case n < 220:
		r.Key, r.Vec = at(on.Key.N-1), vecs[n%len(vecs)]
	case n < 245:
		r.Key = at(uint64(n % 30))
	default:
		r.Key = wrongs[n%len(wrongs)]
	}
	return r
}

// answer is one to what an insertion wants; by its mood some asks of a kind are hardly ever answered AOK.
func (b *bytesOf) answer(c api.InsertConf, x api.Step, mood int) api.Answer {
	kinds := []api.AnswerKind{1, 1, 1, 1, 1, 1, 1, 1, 1, 1, 1, 2, 3, 4, 0, -1}
	n := b.next()
	k := kinds[n%16]
	if n < 250 && mood%8 == int(x.Ask.Kind) {
		k = kinds[11+n%5]
	} else if mood >= 64 && n%64 != 63 {
		k = 1
	}
	return api.Answer{Kind: k, Marked: n >= 128, Left: b.ref(c, x.To, false), Right: b.ref(c, x.To, true)}
}

// whatever plays an insertion against answers out of bytes, holds it against the tale, and watches it: P15.1, P15.3, P15.4. How it ends: with its error, if it does; and in how many lists Me is then.
func whatever(t *testing.T, b bytesOf) (api.Errno, int, bool) {
	t.Helper()
	c, mood := b.settings(), b.next()
	m := begin(t, c)
	w := &teller{c: c}
	next, stop := iter.Pull(w.steps())
	defer stop()
	saw := watch{me: c.Me}
	for steps := 0; len(b) > 0; steps++ {
		x := m.Next()
		if y, _ := next(); !same(x, y) || !same(x, m.Next()) {
			t.Fatalf("step %d of %v: wants %v; not %v", steps, c, x, y)
		}
		a := b.answer(c, x, mood)
		saw.sees(t, x, a)
		w.told = a
		switch x.Kind {
		case api.SDone:
			return x.Result.E, len(saw.in), true
		case api.SWait:
			m.Tell(a)
			m.Wake()
		default:
			m.Wake()
			m.Tell(a)
		}
	}
	return 0, 0, false
}

// P15.1, P15.3, P15.4: whoever answers, whatever. Each end comes.
func TestWhatever(t *testing.T) {
	d := draw(15)
	ends := map[api.Errno]int{}
	whole := 0
	for range 8000 {
		b := make([]byte, 20+d.below(3000))
		for i := range b {
			b[i] = byte(d.below(256))
		}
		e, in, is := whatever(t, b)
		if is {
			ends[e]++
		}
		if is && e == api.OK && in > 2 {
			whole++
		}
	}
	for _, e := range []api.Errno{api.OK, api.ErrExists, api.ErrBusy, api.ErrDead, api.ErrTaken} {
		if ends[e] < 300 {
			t.Errorf("%d end with %d", ends[e], e)
		}
	}
	if len(ends) != 5 || whole < 300 {
		t.Errorf("%v; %d in more than two lists", ends, whole)
	}
}

func FuzzWhatever(f *testing.F) {
	f.Add([]byte{1, 5, 0, 7, 1, 0, 0, 1, 0, 9, 0, 200, 0, 0, 0, 0})
	f.Add([]byte("it searches, stands in the list of no bits, walks to the left, and rises, list by list; but who is dead?"))
	f.Fuzz(func(t *testing.T, b []byte) {
		whatever(t, b)
	})
}
