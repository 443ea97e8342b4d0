package seek

import (
	"slices"
	"strings"
	"testing"

	"leapfrog/api"
)

// told is a will: whose, in which list, and who stood to the right.
type told struct {
	id    int
	w     string
	right api.Ref
}

// spoken is a search by the words of the chapter, word by word.
type spoken struct {
	c     api.SeekConf
	on    api.Ref
	w     string
	looks []api.Ref // none, or one
	wills []told
	tries int
	done  []api.Result // none, or one
}

func speak(c api.SeekConf) *spoken {
	return &spoken{c: c, on: c.Start, w: bits(c.Start.Vec)}
}

func (m *spoken) next() api.Step {
	if len(m.done) == 1 {
		return api.Step{Kind: api.SDone, Result: m.done[0]}
	}
	return reads(append(slices.Clone(m.looks), m.on)[0], m.w)
}

// counts tells whether it may begin again, and counts that.
func (m *spoken) counts() bool {
	if m.tries >= 64 {
		m.done = []api.Result{{E: 121}}
		return false
	}
	m.tries++
	return true
}

func (m *spoken) begins() {
	if m.counts() {
		m.on, m.w, m.looks = head(m.c.Height), strings.Repeat("0", m.c.Height), nil
	}
}

func keyMay(k api.Key) bool {
	return k.Rank == 2 || (k.Rank == 1 || k.Rank == 3) && k.N == 0
}

func (m *spoken) right(r api.Ref) {
	m.looks = nil
	chain := []api.Ref{m.on, r}
	for again := true; again; {
		n := len(chain) - 1
		if !keyMay(chain[n].Key) || !below(chain[n-1].Key, chain[n].Key) {
			m.begins()
			return
		}
		again = false
		for _, x := range m.wills {
			if x.id == chain[n].ID && x.w == m.w {
				again = true
				chain = append(chain[:n+1], x.right)
			}
		}
	}
	s := chain[len(chain)-1]
	switch {
	case below(s.Key, m.c.Target):
		m.looks = []api.Ref{s}
	case m.w != "":
		m.w = m.w[:len(m.w)-1]
	default:
		m.done = []api.Result{{Left: m.on, Right: s, Found: s.Key == m.c.Target}}
	}
}

func (m *spoken) will(of api.Ref, a api.Answer) {
	m.wills = append(m.wills, told{of.ID, m.w, a.Right})
}

func (m *spoken) tell(a api.Answer) {
	if len(m.done) > 0 {
		return
	}
	if len(m.looks) > 0 {
		x := m.looks[0]
		if a.Kind == 1 {
			m.on = x
			m.right(a.Right)
			return
		}
		if a.Kind != 3 {
			m.begins()
			return
		}
		m.will(x, a)
		if m.counts() {
			m.looks = nil
		}
		return
	}
	if a.Kind == 1 && below(m.on.Key, m.c.Target) {
		m.right(a.Right)
		return
	}
	if a.Kind == 1 && keyMay(a.Left.Key) && below(a.Left.Key, m.on.Key) {
		m.on = a.Left
		return
	}
	if a.Kind == 3 {
		m.will(m.on, a)
	}
	m.begins()
}

func (m *spoken) dead(a api.Answer) {
	if len(m.done) == 0 || m.done[0].E != 0 {
		return
	}
	m.will(m.done[0].Right, a)
	m.done = nil
	m.counts()
}

// bytesOf are numbers out of bytes, zeros behind their end.
type bytesOf []byte

func (b *bytesOf) next() int {
	if len(*b) == 0 {
		return 0
	}
	n := int((*b)[0])
	*b = (*b)[1:]
	return n
}

// key is one of few, wrong ones among them; most lie from a number on.
func (b *bytesOf) key(from uint64) api.Key {
	n := b.next()
	switch {
	case n < 200:
		return at(from + uint64(n)%4)
	case n < 225:
		return at(uint64(n) % 16)
	case n < 240:
		return highest
	case n < 246:
		return lowest
	}
	wrong := wrongKeys()
	return wrong[n%len(wrong)]
}

// answer is one to a search that asks somebody; most are such as a peer would give.
func (b *bytesOf) answer(to api.Ref) api.Answer {
	left := api.Ref{Key: b.key(to.Key.N - min(to.Key.N, 3))}
	right := api.Ref{Key: b.key(to.Key.N + 1), Vec: v("01")}
	left.ID, right.ID = int(left.Key.N), int(right.Key.N)
	n := b.next()
	if n%16 == 0 {
		right.ID = n / 16
	}
	kinds := []api.AnswerKind{api.AOK, api.AOK, api.AOK, api.AOK, api.AOK, api.ADead, api.ADead, api.ADead, api.AGone, api.ANo, 0, 5, -1}
	return api.Answer{Kind: kinds[b.next()%len(kinds)], Left: left, Right: right, Marked: n%2 == 1}
}

// settings are some that may be.
func (b *bytesOf) settings() api.SeekConf {
	height := b.next() % 4
	n := b.next()
	start := api.Ref{ID: n % 7, Key: at(uint64(n % 13)), Vec: api.Vec{Len: height, Bits: uint64(b.next()) % (1 << height)}}
	switch n % 11 {
	case 0:
		start = head(height)
	case 1:
		start = tail(height)
	}
	target := at(uint64(b.next() % 14))
	if b.next()%16 == 0 {
		target = highest
	}
	return api.SeekConf{Height: height, Start: start, Target: target}
}

// rising watches P12.6: those on which a search stands go left while they are not below the target, and right then.
type rising struct {
	target api.Key
	stood  []api.Key
}

func (r *rising) stands(t *testing.T, k api.Key) {
	t.Helper()
	if n := len(r.stood); n > 0 {
		last := r.stood[n-1]
		if below(last, r.target) && below(k, last) || !below(last, r.target) && !below(k, last) {
			t.Fatalf("to %v: on %v behind %v", r.target, k, r.stood)
		}
	}
	r.stood = append(r.stood, k)
}

// whatever plays a search against answers out of bytes, and holds it against the words: P12.1 to P12.3, P12.5 to P12.7.
func whatever(t *testing.T, b bytesOf) {
	t.Helper()
	c := b.settings()
	s := begin(t, c.Start, c.Target)
	m := speak(c)
	watch := rising{target: c.Target}
	for steps := 0; len(b) > 0; steps++ {
		x := s.Next()
		if y := m.next(); !same(x, y) || s.Tries() != m.tries || !same(x, s.Next()) {
			t.Fatalf("step %d of %v: wants %v, %d times again; not %v, %d", steps, c, x, s.Tries(), y, m.tries)
		}
		a := b.answer(x.To)
		before := s.Tries()
		if x.Kind == api.SDone && b.next()%4 > 0 {
			a.Right = api.Ref{ID: a.Right.ID, Key: b.key(x.Result.Right.Key.N + 1)}
			s.Dead(a)
			m.dead(a)
			continue
		}
		if x.Kind == api.SAsk && a.Kind == api.AOK {
			watch.stands(t, x.To.Key)
		}
		s.Tell(a)
		m.tell(a)
		if s.Tries() > before && same(s.Next(), reads(head(c.Height), strings.Repeat("0", c.Height))) {
			watch.stood = nil
		}
		if b.next()%8 == 0 && x.Kind == api.SAsk && s.Next().Kind == api.SAsk {
			s.Dead(a)
			s.Wake()
		}
	}
}

// P12.1 to P12.3, P12.5 to P12.7: whoever answers, whatever.
func TestWhatever(t *testing.T) {
	d := draw(12)
	for range 4000 {
		b := make([]byte, 20+d.below(600))
		for i := range b {
			b[i] = byte(d.below(256))
		}
		whatever(t, b)
	}
}

func FuzzWhatever(f *testing.F) {
	f.Add([]byte{1, 5, 0, 7, 1, 0, 0, 1, 0, 9})
	f.Add([]byte("a search goes left, and right then, and down, and is over; but who is dead?"))
	f.Fuzz(func(t *testing.T, b []byte) {
		whatever(t, b)
	})
}

// P12.5: whoever answers, whatever, so that it does not end by itself: it begins again MaxTries times, and is over.
func TestEnds(t *testing.T) {
	d := draw(4)
	for range 2000 {
		height := d.below(5)
		s := begin(t, head(height), at(1000))
		asks := 0
		for ; s.Next().Kind == api.SAsk; asks++ {
			to := s.Next().To
			a := api.Answer{Kind: api.AnswerKind(1 + d.below(4)), Right: api.Ref{ID: d.below(30), Key: at(uint64(d.below(30)))}}
			if to.Key.N >= 29 || asks%50 == 49 {
				a.Kind = api.AGone
			}
			s.Tell(a)
		}
		if r := s.Next().Result; !alike(r, api.Result{E: api.ErrBusy}) || s.Tries() != api.MaxTries || asks <= api.MaxTries {
			t.Fatalf("%v behind %d asks, %d times again", r, asks, s.Tries())
		}
	}
}
