package remove

import (
	"math"
	"reflect"
	"strings"
	"testing"

	"leapfrog/api"
)

const top = math.MaxUint64

// The keys at both ends.
var (
	lowest  = api.Key{Rank: api.RLow}
	highest = api.Key{Rank: api.RHigh}
)

// own is who locks, where nothing else is said.
var own = api.Owner{Agent: 3, Op: 4}

func at(n uint64) api.Key { return api.Key{Rank: api.RAt, N: n} }

// v is the vector of bits as a text; of no bits that is empty.
func v(bits string) api.Vec {
	w := api.Vec{Len: len(bits)}
	for _, c := range bits {
		w.Bits = w.Bits*2 + uint64(c-'0')
	}
	return w
}

// first is a vector's first bits.
func first(w api.Vec, n int) api.Vec {
	return api.Vec{Len: n, Bits: w.Bits >> (w.Len - n)}
}

// ref is a peer whose ID is its key's number and 10 more, so that one is not taken for the other.
func ref(n uint64, bits string) api.Ref {
	return api.Ref{ID: int(n) + 10, Key: at(n), Vec: v(bits)}
}

// low and high are the ends of a height.
func low(height int) api.Ref {
	return api.Ref{ID: 0, Key: lowest, Vec: api.Vec{Len: height}}
}

func high(height int) api.Ref {
	return api.Ref{ID: 1, Key: highest, Vec: api.Vec{Len: height}}
}

// wrongKeys are such as may not be.
func wrongKeys() []api.Key {
	return []api.Key{{}, {N: 5}, {Rank: api.RLow, N: 1}, {Rank: api.RLow, N: top}, {Rank: api.RHigh, N: 1}, {Rank: api.RHigh, N: top}, {Rank: 4}, {Rank: 4, N: 7}, {Rank: -1}, {Rank: math.MaxInt, N: 2}, {Rank: math.MinInt}}
}

// wrongVecs are such as may not be.
func wrongVecs() []api.Vec {
	return []api.Vec{{Bits: 1}, {Len: 1, Bits: 2}, {Len: 3, Bits: 8}, {Len: 32, Bits: 1 << 32}, {Len: 32, Bits: top}, {Len: 33}, {Len: 33, Bits: 1}, {Len: 64}, {Len: -1}, {Len: -1, Bits: 1}, {Len: math.MaxInt}, {Len: math.MinInt}}
}

// plain are settings for key 5, in a height, from the head.
func plain(height int) api.RemoveConf {
	return api.RemoveConf{Height: height, Start: low(height), Key: 5, Owner: own}
}

// begin is a removal that New makes.
func begin(t *testing.T, c api.RemoveConf) *Remove {
	t.Helper()
	m, e := New(c)
	if e != api.OK || m == nil {
		t.Fatalf("New(%v) = %v, %d", c, m, e)
	}
	return m
}

// same tells whether two steps are alike in all.
func same(a, b api.Step) bool {
	return reflect.DeepEqual(a, b)
}

// reads is the step of a QRead of a list.
func reads(to api.Ref, w api.Vec) api.Step {
	return api.Step{Kind: api.SAsk, To: to, Ask: api.Ask{Kind: api.QRead, W: w}}
}

// marks is the step of a QMark.
func marks(x api.Ref) api.Step {
	return api.Step{Kind: api.SAsk, To: x, Ask: api.Ask{Kind: api.QMark}}
}

// owned is the step of an ask of a list, by own.
func owned(to api.Ref, kind api.AskKind, w api.Vec, refs ...api.Ref) api.Step {
	a := api.Ask{Kind: kind, W: w, Owner: own}
	if len(refs) > 0 {
		a.Ref = refs[0]
	}
	return api.Step{Kind: api.SAsk, To: to, Ask: a}
}

// lefts is the step of a QLeft, which has no Owner.
func lefts(to api.Ref, w api.Vec, left api.Ref) api.Step {
	return api.Step{Kind: api.SAsk, To: to, Ask: api.Ask{Kind: api.QLeft, W: w, Ref: left}}
}

// waits and over are the other steps.
func waits() api.Step { return api.Step{Kind: api.SWait} }

func over(e api.Errno) api.Step {
	return api.Step{Kind: api.SDone, Result: api.Result{E: e}}
}

// The answers.
func onRight(r api.Ref) api.Answer {
	return api.Answer{Kind: api.AOK, Right: r}
}

func onLeft(r api.Ref) api.Answer {
	return api.Answer{Kind: api.AOK, Left: r}
}

func kind(k api.AnswerKind) api.Answer {
	return api.Answer{Kind: k}
}

var yes, no, gone, dead = kind(api.AOK), kind(api.ANo), kind(api.AGone), kind(api.ADead)

// filled is an answer of a kind with all that an answer can have.
func filled(k api.AnswerKind) api.Answer {
	return api.Answer{Kind: k, Marked: true, Left: ref(2, ""), Right: ref(90, ""), Value: []byte("abc")}
}

// answers are those of all kinds, and of none, but some; without anything, and with all.
func answers(but ...api.AnswerKind) []api.Answer {
	var l []api.Answer
	left := map[api.AnswerKind]int{}
	for _, k := range but {
		left[k]++
	}
	for _, k := range []api.AnswerKind{0, api.AOK, api.AGone, api.ADead, api.ANo, 5, -1, math.MaxInt, math.MinInt} {
		if left[k] == 0 {
			l = append(l, kind(k), filled(k))
		}
	}
	return l
}

// wants asks a removal for its step, twice.
func wants(t *testing.T, m *Remove, want api.Step) {
	t.Helper()
	for range 2 {
		if x := m.Next(); !same(x, want) {
			t.Fatalf("wants %v; not %v", x, want)
		}
	}
}

// ends holds that a removal is over, with an error, and whether it marked the peer.
func ends(t *testing.T, m *Remove, e api.Errno, marked bool) {
	t.Helper()
	wants(t, m, over(e))
	if m.Marked() != marked {
		t.Fatalf("marked: %t", !marked)
	}
}

// row is what a removal must want, and what it is told then; where it waits, that is a tick.
type row struct {
	want api.Step
	a    api.Answer
}

// rows are some, one behind the other, in new memory.
func rows(l ...[]row) []row {
	var all []row
	for _, r := range l {
		all = append(all, r...)
	}
	return all
}

// play plays rows; behind an answer AOK to QMark it must be marked, and not ahead of it.
func play(t *testing.T, m *Remove, l ...row) {
	t.Helper()
	for i, r := range l {
		before := m.Marked()
		for range 2 {
			if x := m.Next(); !same(x, r.want) {
				t.Fatalf("row %d: wants %v; not %v", i, x, r.want)
			}
		}
		if r.want.Kind == api.SWait {
			m.Wake()
		} else {
			m.Tell(r.a)
		}
		now := before || r.want.Ask.Kind == api.QMark && r.a.Kind == api.AOK
		if m.Marked() != now {
			t.Fatalf("row %d, %v told %v: marked: %t", i, r.want, r.a, m.Marked())
		}
	}
}

// played is a removal that has played rows.
func played(t *testing.T, c api.RemoveConf, l ...[]row) *Remove {
	t.Helper()
	m := begin(t, c)
	play(t, m, rows(l...)...)
	return m
}

// sought are the rows of a search from the head, which ends between two: who is to the left is the head, or stands right of it in the list of no bits.
func sought(height int, left, right api.Ref) []row {
	var l []row
	h := low(height)
	for n := height; n > 0; n-- {
		l = append(l, row{reads(h, api.Vec{Len: n}), onRight(high(height))})
	}
	if left == h {
		return append(l, row{reads(h, v("")), onRight(right)})
	}
	return append(l, row{reads(h, v("")), onRight(left)}, row{reads(left, v("")), onRight(right)})
}

// out are the rows of an unsplice of one out of a list, from between two, told AOK each time.
func out(x api.Ref, w api.Vec, left, right api.Ref) []row {
	return []row{
		{reads(x, w), onLeft(left)},
		{owned(left, api.QLock, w), onRight(x)},
		{owned(x, api.QLock, w), onRight(right)},
		{owned(left, api.QRight, w, right), yes},
		{lefts(right, w, left), yes},
		{owned(x, api.QOut, w), yes},
		{owned(left, api.QFree, w), yes},
	}
}

// toMark are the rows up to QMark: x stands between the ends.
func toMark(height int, x api.Ref) []row {
	return sought(height, low(height), x)
}

// toList are the rows up to the unsplice of one, out of the list of so many bits; of -1 up to the end.
func toList(height int, x api.Ref, bits int) []row {
	l := append(toMark(height, x), row{marks(x), yes})
	for n := x.Vec.Len; n > bits; n-- {
		l = append(l, out(x, first(x.Vec, n), low(height), high(height))...)
	}
	return l
}

// P16.1: settings that may be, any Key among them: it reads Start, and marked nobody.
func TestNew(t *testing.T) {
	var l []api.RemoveConf
	for _, height := range []int{0, 1, 3, 31, 32} {
		for _, k := range []uint64{0, 1, 5, 1 << 63, top} {
			l = append(l, api.RemoveConf{Height: height, Start: low(height), Key: k, Owner: own}, api.RemoveConf{Height: height, Start: high(height), Key: k, Owner: own})
		}
	}
	// It may begin with anybody, above the key and of that key, too. IDs are not asked for.
	for _, start := range []api.Ref{ref(4, "01"), ref(5, "10"), ref(6, "11"), ref(0, "00"), {ID: -1, Key: at(top), Vec: v("11")}, {ID: math.MaxInt, Key: lowest, Vec: v("11")}, {ID: math.MinInt, Key: highest, Vec: v("01")}} {
		l = append(l, api.RemoveConf{Height: 2, Start: start, Key: 5, Owner: own})
	}
	l = append(l, api.RemoveConf{Height: 32, Start: api.Ref{ID: 2, Key: at(1), Vec: api.Vec{Len: 32, Bits: 1<<32 - 1}}, Owner: own})
	// The owners at the edges.
	for _, o := range []api.Owner{{Agent: 0, Op: 1}, {Agent: api.MaxPeers - 1, Op: api.MaxOps}, {Agent: 0, Op: api.MaxOps}, {Agent: api.MaxPeers - 1, Op: 1}} {
		l = append(l, api.RemoveConf{Start: low(0), Owner: o})
	}
	for _, c := range l {
		m := begin(t, c)
		wants(t, m, reads(c.Start, c.Start.Vec))
		if m.Marked() {
			t.Errorf("%v: marked", c)
		}
	}
}

// wrong are settings that may not be, each by one of their parts.
func wrong() []api.RemoveConf {
	var l []api.RemoveConf
	put := func(change func(c *api.RemoveConf)) {
		c := plain(3)
		change(&c)
		l = append(l, c)
	}
	for _, height := range []int{-1, 33, 64, math.MinInt, math.MaxInt} {
		put(func(c *api.RemoveConf) { c.Height = height })
		put(func(c *api.RemoveConf) { c.Height, c.Start.Vec.Len = height, height })
	}
	for _, height := range []int{0, 2, 4, 32} {
		// Of one that may be, and the start is of another one.
		put(func(c *api.RemoveConf) { c.Height = height })
		put(func(c *api.RemoveConf) { c.Start.Vec.Len = height })
	}
	for _, w := range wrongVecs() {
		put(func(c *api.RemoveConf) { c.Start = api.Ref{ID: 4, Key: at(3), Vec: w} })
		put(func(c *api.RemoveConf) { c.Height, c.Start.Vec = w.Len, w })
	}
	for _, k := range wrongKeys() {
		put(func(c *api.RemoveConf) { c.Start.Key = k })
	}
	for _, o := range []api.Owner{{}, {Agent: 3}, {Agent: -1, Op: 4}, {Agent: api.MaxPeers, Op: 4}, {Agent: 3, Op: -1}, {Agent: 3, Op: api.MaxOps + 1}, {Agent: math.MinInt, Op: math.MaxInt}, {Agent: math.MaxInt, Op: 1}, {Op: math.MinInt}} {
		put(func(c *api.RemoveConf) { c.Owner = o })
	}
	return append(l, api.RemoveConf{})
}

// P16.1: settings that may not be.
func TestNewWrong(t *testing.T) {
	for _, c := range wrong() {
		if m, e := New(c); e != api.ErrRemove || m != nil {
			t.Errorf("New(%v) = %v, %d", c, m, e)
		}
	}
	if api.ErrRemove != 160 {
		t.Error(api.ErrRemove)
	}
}

// P16.1 and rule 3: a Remove that is nil, or that New did not make, tells zero values, whatever it is told.
func TestNotMade(t *testing.T) {
	for _, m := range []*Remove{nil, {}, new(Remove)} {
		for _, a := range answers() {
			m.Tell(a)
			wants(t, m, api.Step{})
			m.Wake()
			wants(t, m, api.Step{})
			if m.Marked() {
				t.Errorf("%v told %v: marked", m, a)
			}
		}
	}
}

// P16.1, P16.2: the example of the chapter.
func TestExample(t *testing.T) {
	h, end, x := low(1), high(1), ref(5, "1")
	m := begin(t, plain(1))
	play(t, m,
		row{reads(h, v("0")), onRight(end)},
		row{reads(h, v("")), onRight(x)},
		row{marks(x), yes},
		// unsplice of "1"
		row{reads(x, v("1")), onLeft(h)},
		row{owned(h, api.QLock, v("1")), onRight(x)},
		row{owned(x, api.QLock, v("1")), onRight(end)},
		row{owned(h, api.QRight, v("1"), end), yes},
		row{lefts(end, v("1"), h), yes},
		row{owned(x, api.QOut, v("1")), yes},
		row{owned(h, api.QFree, v("1")), yes},
		// unsplice of no bits
		row{reads(x, v("")), onLeft(h)},
		row{owned(h, api.QLock, v("")), onRight(x)},
		row{owned(x, api.QLock, v("")), onRight(end)},
		row{owned(h, api.QRight, v(""), end), yes},
		row{lefts(end, v(""), h), yes},
		row{owned(x, api.QOut, v("")), yes},
		row{owned(h, api.QFree, v("")), yes})
	ends(t, m, api.OK, true)
}

// P16.1, P16.2: of each height it leaves as many lists as that, and one, the highest first.
func TestHeights(t *testing.T) {
	all := strings.Repeat("0110", 8)
	for height := range api.MaxVec + 1 {
		m := played(t, plain(height), toList(height, ref(5, all[:height]), -1))
		ends(t, m, api.OK, true)
	}
}

// everywhere are removals at each place at which one can be.
func everywhere(t *testing.T) map[string]*Remove {
	t.Helper()
	c, x := plain(2), ref(5, "10")
	to := func(bits, n int) *Remove {
		return played(t, c, toList(2, x, bits), out(x, first(x.Vec, bits), low(2), high(2))[:n])
	}
	told := func(m *Remove, l ...api.Answer) *Remove {
		for _, a := range l {
			m.Tell(a)
		}
		return m
	}
	marking := func() *Remove { return played(t, c, toMark(2, x)) }
	busy := begin(t, c)
	for range api.MaxTries + 1 {
		busy.Tell(no)
	}
	return map[string]*Remove{
		"search": begin(t, c), "search on": played(t, c, toMark(2, x)[:2]), "search again": told(begin(t, c), gone),
		"mark": marking(),
		"read": to(2, 0), "lock": to(2, 1), "lock x": to(2, 2), "right": to(2, 3), "left": to(2, 4), "out": to(2, 5), "free": to(2, 6),
		"read 1": to(1, 0), "lock 1": to(1, 1), "lock x 1": to(1, 2),
		"read 0": to(0, 0), "lock 0": to(0, 1), "lock x 0": to(0, 2), "right 0": to(0, 3), "left 0": to(0, 4), "out 0": to(0, 5), "free 0": to(0, 6),
		"free x": told(to(2, 3), no), "free x 0": told(to(0, 3), no),
		"wait 2": told(to(2, 0), no), "wait 1": told(to(1, 1), no), "wait 0": told(to(0, 2), no, yes),
		"OK": told(to(0, 6), yes), "OK by ErrDead": told(to(2, 0), dead),
		"ErrAbsent": played(t, c, sought(2, low(2), high(2))), "ErrAbsent by mark": told(marking(), no),
		"ErrDead": told(marking(), dead), "ErrBusy": busy,
	}
}

// isMarked tells whether a place of everywhere is behind the mark.
func isMarked(name string) bool {
	for _, ahead := range []string{"search", "mark", "Err"} {
		if strings.HasPrefix(name, ahead) {
			return false
		}
	}
	return true
}

// P16.1: Marked, at each place.
func TestMarked(t *testing.T) {
	for name, m := range everywhere(t) {
		if m.Marked() != isMarked(name) {
			t.Errorf("%s: %t", name, m.Marked())
		}
	}
}

// P16.2: a tick is nothing, but where it waits: there the unsplice of that list begins again.
func TestWake(t *testing.T) {
	bits := map[string]int{"wait 0": 0, "wait 1": 1, "wait 2": 2}
	x := ref(5, "10")
	waited := 0
	for name, m := range everywhere(t) {
		before := m.Next()
		if n, is := bits[name]; is {
			wants(t, m, waits())
			before = reads(x, first(x.Vec, n))
			waited++
		} else if before.Kind == api.SWait {
			t.Fatalf("%s waits", name)
		}
		for range 3 {
			m.Wake()
			wants(t, m, before)
		}
		if m.Marked() != isMarked(name) {
			t.Errorf("%s: marked: %t", name, m.Marked())
		}
	}
	if waited != 3 {
		t.Error(waited)
	}
}

// P16.2: an answer is nothing, while it waits, and behind the end.
func TestTellNobody(t *testing.T) {
	tried := 0
	for name, m := range everywhere(t) {
		before := m.Next()
		if before.Kind == api.SAsk {
			continue
		}
		tried++
		for _, a := range answers() {
			m.Tell(a)
			wants(t, m, before)
			if m.Marked() != isMarked(name) {
				t.Errorf("%s told %v: marked: %t", name, a, m.Marked())
			}
		}
		if before.Kind == api.SDone {
			m.Wake()
			wants(t, m, before)
			continue
		}
		// What it is told behind the tick counts again.
		m.Wake()
		w := m.Next().Ask.W
		m.Tell(onLeft(low(2)))
		wants(t, m, owned(low(2), api.QLock, w))
	}
	if tried != 9 {
		t.Error(tried)
	}
}

// P16.1: each end's step has its result alone, of that E alone.
func TestEnds(t *testing.T) {
	all := everywhere(t)
	ends(t, all["OK"], api.OK, true)
	ends(t, all["OK by ErrDead"], api.OK, true)
	ends(t, all["ErrAbsent"], api.ErrAbsent, false)
	ends(t, all["ErrAbsent by mark"], api.ErrAbsent, false)
	ends(t, all["ErrDead"], api.ErrDead, false)
	ends(t, all["ErrBusy"], api.ErrBusy, false)
	for e, n := range map[api.Errno]int{api.ErrAbsent: 101, api.ErrDead: 132, api.ErrBusy: 121} {
		if int(e) != n {
			t.Error(e, n)
		}
	}
}

// P16.1: Next and Marked change nothing: asked any number of times, they tell the same, and what comes behind is as if they were not asked.
func TestNextAgain(t *testing.T) {
	for name := range everywhere(t) {
		for _, a := range []api.Answer{yes, no, gone, dead, onRight(high(2)), onRight(ref(5, "10")), onLeft(ref(3, "10"))} {
			m, other := everywhere(t)[name], everywhere(t)[name]
			for range 5 {
				m.Next()
				m.Marked()
			}
			for range 5 {
				m.Tell(a)
				other.Tell(a)
				wants(t, m, m.Next())
				m.Wake()
				other.Wake()
				m.Next()
				m.Marked()
			}
			if x, y := m.Next(), other.Next(); !same(x, y) || m.Marked() != other.Marked() {
				t.Errorf("%s: %v, %v", name, x, y)
			}
		}
	}
}

// Rule 4: nothing is shared with what was handed in, or with what was handed out, or with another removal.
func TestApart(t *testing.T) {
	c, x := plain(2), ref(5, "10")
	was := c
	m, other := begin(t, c), begin(t, c)
	c.Height, c.Start, c.Key, c.Owner = 1, ref(1, "0"), 7, api.Owner{Op: 1}
	for _, r := range toList(2, x, -1) {
		wants(t, m, r.want)
		s := m.Next()
		s.Kind, s.To, s.Ask, s.Result = api.SWait, high(2), api.Ask{}, api.Result{E: api.ErrDead}
		r.a.Value = []byte("abc")
		a := r.a
		m.Tell(a)
		if string(a.Value) != "abc" || !reflect.DeepEqual(a, r.a) {
			t.Errorf("it changed an answer: %v", a)
		}
		a.Value[0], a.Left, a.Right = 'x', ref(1, "10"), ref(9, "10")
	}
	ends(t, m, api.OK, true)
	s := m.Next()
	s.Result.E, s.Result.Left, s.Result.Items = api.ErrDead, low(2), []api.Item{{Key: 1}}
	ends(t, m, api.OK, true)
	// What one removal was told another one does not know.
	wants(t, other, reads(was.Start, was.Start.Vec))
	if other.Marked() {
		t.Error("the other one is marked")
	}
	play(t, other, toList(2, x, -1)...)
	ends(t, other, api.OK, true)
}
