package splice

import (
	"math"
	"reflect"
	"strings"
	"testing"

	"leapfrog/api"
)

const top = math.MaxUint64

// The keys at both ends.
var (
	lowest  = api.Key{Rank: api.RLow}
	highest = api.Key{Rank: api.RHigh}
)

// own is who locks, where nothing else is said.
var own = api.Owner{Agent: 3, Op: 4}

func at(n uint64) api.Key { return api.Key{Rank: api.RAt, N: n} }

// v is the vector of bits as a text; of no bits that is empty.
func v(bits string) api.Vec {
	w := api.Vec{Len: len(bits)}
	for _, c := range bits {
		w.Bits = w.Bits*2 + uint64(c-'0')
	}
	return w
}

// ref is a peer whose ID is its key's number and 10 more, so that one is not taken for the other.
func ref(n uint64, bits string) api.Ref {
	return api.Ref{ID: int(n) + 10, Key: at(n), Vec: v(bits)}
}

// head and tail are the ends of a height.
func head(height int) api.Ref {
	return api.Ref{ID: 0, Key: lowest, Vec: api.Vec{Len: height}}
}

func tail(height int) api.Ref {
	return api.Ref{ID: 1, Key: highest, Vec: api.Vec{Len: height}}
}

// wrongKeys are such as may not be.
func wrongKeys() []api.Key {
	return []api.Key{{}, {N: 5}, {Rank: api.RLow, N: 1}, {Rank: api.RLow, N: top}, {Rank: api.RHigh, N: 1}, {Rank: api.RHigh, N: top}, {Rank: 4}, {Rank: 4, N: 7}, {Rank: -1}, {Rank: math.MaxInt, N: 2}, {Rank: math.MinInt}}
}

// wrongVecs are such as may not be.
func wrongVecs() []api.Vec {
	return []api.Vec{{Bits: 1}, {Len: 1, Bits: 2}, {Len: 3, Bits: 8}, {Len: 32, Bits: 1 << 32}, {Len: 32, Bits: top}, {Len: 33}, {Len: 33, Bits: 1}, {Len: 64}, {Len: -1}, {Len: -1, Bits: 1}, {Len: math.MaxInt}, {Len: math.MinInt}}
}

// plain are settings of 5, of some bits, into the list of its first ones, from the head.
func plain(bits string, level int) api.SpliceConf {
	return api.SpliceConf{W: v(bits[:level]), Me: ref(5, bits), From: head(len(bits)), Owner: own}
}

// begin is a splice that New makes.
func begin(t *testing.T, c api.SpliceConf) *Splice {
	t.Helper()
	s, e := New(c)
	if e != api.OK || s == nil {
		t.Fatalf("New(%v) = %v, %d", c, s, e)
	}
	return s
}

// same tells whether two steps are alike in all.
func same(a, b api.Step) bool {
	return reflect.DeepEqual(a, b)
}

// asks is the step of an ask of the list of the settings; Owner stands where the ask has one, as chapter 4 says.
func asks(c api.SpliceConf, to api.Ref, kind api.AskKind, refs ...api.Ref) api.Step {
	a := api.Ask{Kind: kind, W: c.W}
	if kind != api.QRead && kind != api.QLeft {
		a.Owner = c.Owner
	}
	if len(refs) > 0 {
		a.Ref = refs[0]
	}
	if len(refs) > 1 {
		a.Ref2 = refs[1]
	}
	return api.Step{Kind: api.SAsk, To: to, Ask: a}
}

// waits and over are the other steps.
func waits() api.Step { return api.Step{Kind: api.SWait} }

func over(e api.Errno, sides ...api.Ref) api.Step {
	x := api.Step{Kind: api.SDone, Result: api.Result{E: e}}
	if len(sides) == 2 {
		x.Result.Left, x.Result.Right = sides[0], sides[1]
	}
	return x
}

// The answers.
func ok(right api.Ref) api.Answer {
	return api.Answer{Kind: api.AOK, Right: right}
}

func kind(k api.AnswerKind) api.Answer {
	return api.Answer{Kind: k}
}

var yes, no, gone, dead = kind(api.AOK), kind(api.ANo), kind(api.AGone), kind(api.ADead)

// filled is an answer of a kind with all that an answer can have.
func filled(k api.AnswerKind) api.Answer {
	return api.Answer{Kind: k, Marked: true, Left: ref(2, ""), Right: ref(90, ""), Value: []byte("abc")}
}

// answers are those of all kinds, and of none, but some; without anything, and with all.
func answers(but ...api.AnswerKind) []api.Answer {
	var l []api.Answer
	left := map[api.AnswerKind]int{}
	for _, k := range but {
		left[k]++
	}
	for _, k := range []api.AnswerKind{0, api.AOK, api.AGone, api.ADead, api.ANo, 5, -1, math.MaxInt, math.MinInt} {
		if left[k] == 0 {
			l = append(l, kind(k), filled(k))
		}
	}
	return l
}

// wants asks a splice for its step, twice.
func wants(t *testing.T, s *Splice, want api.Step) {
	t.Helper()
	for range 2 {
		if x := s.Next(); !same(x, want) {
			t.Fatalf("wants %v; not %v", x, want)
		}
	}
}

// row is what a splice must want, and what it is told then; where it waits, that is a tick.
type row struct {
	want api.Step
	a    api.Answer
}

// play plays rows.
func play(t *testing.T, s *Splice, rows ...row) {
	t.Helper()
	for i, r := range rows {
		for range 2 {
			if x := s.Next(); !same(x, r.want) {
				t.Fatalf("row %d: wants %v; not %v", i, x, r.want)
			}
		}
		if r.want.Kind == api.SWait {
			s.Wake()
		} else {
			s.Tell(r.a)
		}
	}
}

// played is a splice that has played rows.
func played(t *testing.T, c api.SpliceConf, rows ...row) *Splice {
	t.Helper()
	s := begin(t, c)
	play(t, s, rows...)
	return s
}

// P13.1: settings that may be: it is at Lock, and asks From.
func TestNew(t *testing.T) {
	all := strings.Repeat("10", 16)
	for _, c := range []api.SpliceConf{
		plain("", 0), plain("101", 0), plain("101", 1), plain("101", 3), plain(all, 0), plain(all, 31), plain(all, 32),
		{W: v("1"), Me: ref(5, "10"), From: ref(4, "10"), Owner: own},
		{W: v(""), Me: ref(1, ""), From: ref(0, ""), Owner: own},
		{W: v(""), Me: ref(0, ""), From: head(0), Owner: own},
		{W: v(""), Me: api.Ref{Key: at(top)}, From: api.Ref{Key: at(top - 1)}, Owner: own},
		// The owners at the edges.
		{W: v(""), Me: ref(5, ""), From: head(0), Owner: api.Owner{Agent: 0, Op: 1}},
		{W: v(""), Me: ref(5, ""), From: head(0), Owner: api.Owner{Agent: api.MaxPeers - 1, Op: api.MaxOps}},
		// IDs, and From's vector, are not asked for.
		{W: v("0"), Me: api.Ref{ID: -1, Key: at(5), Vec: v("01")}, From: api.Ref{ID: math.MaxInt, Key: at(4), Vec: v("1")}, Owner: own},
		{W: v("0"), Me: api.Ref{ID: math.MinInt, Key: at(5), Vec: v("01")}, From: api.Ref{Key: at(4), Vec: api.Vec{Len: -1, Bits: 9}}, Owner: own},
		{W: v(""), Me: ref(5, ""), From: api.Ref{ID: 15, Key: at(4), Vec: v("1")}, Owner: own},
	} {
		wants(t, begin(t, c), asks(c, c.From, api.QLock))
	}
}

// wrong are settings that may not be, each by one of their parts.
func wrong() []api.SpliceConf {
	var l []api.SpliceConf
	put := func(change func(c *api.SpliceConf)) {
		c := plain("101", 2)
		change(&c)
		l = append(l, c)
	}
	for _, w := range append(wrongVecs(), v("0"), v("11"), v("1011"), v("1010"), v("100"), v("01")) {
		put(func(c *api.SpliceConf) { c.W = w })
	}
	for _, w := range append(wrongVecs(), v(""), v("1"), v("0"), v("01"), v("110"), v("001")) {
		put(func(c *api.SpliceConf) { c.Me.Vec = w })
		// Both alike, though no vector.
		if w.Len > 32 || w.Len < 0 || w.Bits>>w.Len > 0 {
			put(func(c *api.SpliceConf) { c.W, c.Me.Vec = w, w })
			put(func(c *api.SpliceConf) { c.W, c.Me.Vec = v(""), w })
		}
	}
	for _, k := range append(wrongKeys(), lowest, highest) {
		for _, from := range []api.Key{lowest, at(4)} {
			put(func(c *api.SpliceConf) { c.Me.Key, c.From.Key = k, from })
		}
	}
	for _, k := range append(wrongKeys(), at(5), at(6), at(top), highest) {
		put(func(c *api.SpliceConf) { c.From.Key = k })
	}
	put(func(c *api.SpliceConf) { c.Me.Key, c.From.Key = at(0), at(0) })
	for _, o := range []api.Owner{{}, {Agent: 3}, {Agent: -1, Op: 4}, {Agent: api.MaxPeers, Op: 4}, {Agent: 3, Op: -1}, {Agent: 3, Op: api.MaxOps + 1}, {Agent: math.MinInt, Op: math.MaxInt}} {
		put(func(c *api.SpliceConf) { c.Owner = o })
	}
	return append(l, api.SpliceConf{})
}

// P13.1: settings that may not be.
func TestNewWrong(t *testing.T) {
	for _, c := range wrong() {
		if s, e := New(c); e != api.ErrSplice || s != nil {
			t.Errorf("New(%v) = %v, %d", c, s, e)
		}
	}
}

// P13.1 and rule 3: a splice that is nil, or that New did not make, tells zero values, whatever it is told.
func TestNotMade(t *testing.T) {
	for _, s := range []*Splice{nil, {}, new(Splice)} {
		for _, a := range answers() {
			s.Tell(a)
			s.Wake()
			wants(t, s, api.Step{})
		}
	}
}

// P13.1: the example of the chapter.
func TestExample(t *testing.T) {
	c := plain("", 0)
	h, me, end := head(0), c.Me, tail(0)
	s := played(t, c,
		row{asks(c, h, api.QLock), ok(end)},
		row{asks(c, me, api.QRec, h, end), yes},
		row{asks(c, h, api.QRight, me), yes},
		row{asks(c, end, api.QLeft, me), yes},
		row{asks(c, me, api.QFree), yes},
		row{asks(c, h, api.QFree), yes})
	wants(t, s, over(api.OK, h, end))
}

// everywhere are splices at each place at which one can be, with what they want there.
func everywhere(t *testing.T) map[string]*Splice {
	t.Helper()
	c := plain("", 0)
	h, me, end, twin := head(0), c.Me, tail(0), api.Ref{ID: 77, Key: at(5)}
	locks := row{asks(c, h, api.QLock), ok(end)}
	enters := row{asks(c, me, api.QRec, h, end), yes}
	rights := row{asks(c, h, api.QRight, me), yes}
	lefts := row{asks(c, end, api.QLeft, me), yes}
	mine := row{asks(c, me, api.QFree), yes}
	return map[string]*Splice{
		"Lock":  played(t, c),
		"Same":  played(t, c, row{locks.want, ok(twin)}),
		"Enter": played(t, c, locks),
		"Right": played(t, c, locks, enters),
		"Left":  played(t, c, locks, enters, rights),
		"Mine":  played(t, c, locks, enters, rights, lefts),
		"Out":   played(t, c, locks, enters, row{rights.want, no}),
		"Free":  played(t, c, locks, enters, rights, lefts, mine),
		"wait":  played(t, c, row{locks.want, no}),
		"end":   played(t, c, locks, enters, rights, lefts, mine, row{asks(c, h, api.QFree), yes}),
	}
}

// P13.1: a tick is nothing, but where it waits: there it goes on, and asks for the lock.
func TestWake(t *testing.T) {
	for name, s := range everywhere(t) {
		before := s.Next()
		if name == "wait" {
			wants(t, s, waits())
			before = asks(plain("", 0), head(0), api.QLock)
		}
		for range 3 {
			s.Wake()
			wants(t, s, before)
		}
	}
}

// P13.1: an answer is nothing, while it waits, and behind the end.
func TestTellNobody(t *testing.T) {
	for name, s := range everywhere(t) {
		if name != "wait" && name != "end" {
			continue
		}
		before := s.Next()
		for _, a := range answers() {
			s.Tell(a)
			wants(t, s, before)
		}
	}
	// Ends of other kinds.
	c := plain("", 0)
	for _, s := range []*Splice{
		played(t, c, row{asks(c, head(0), api.QLock), gone}),
		played(t, c, row{asks(c, head(0), api.QLock), ok(tail(0))}, row{asks(c, c.Me, api.QRec, head(0), tail(0)), no}, row{asks(c, head(0), api.QFree), yes}),
	} {
		before := s.Next()
		if before.Kind != api.SDone {
			t.Fatalf("wants %v", before)
		}
		for _, a := range answers() {
			s.Tell(a)
			s.Wake()
			wants(t, s, before)
		}
	}
}

// P13.1: Next changes nothing: asked any number of times, it tells the same, and what comes behind is as if it was not asked.
func TestNextAgain(t *testing.T) {
	for name, s := range everywhere(t) {
		other := everywhere(t)[name]
		for range 5 {
			s.Next()
		}
		for range 3 {
			s.Tell(yes)
			other.Tell(yes)
			s.Next()
		}
		if a, b := s.Next(), other.Next(); !same(a, b) {
			t.Errorf("%s: %v, %v", name, a, b)
		}
	}
}

// Rule 4: nothing is shared with what was handed in, or with what was handed out, or with another splice.
func TestApart(t *testing.T) {
	c := plain("10", 0)
	was := c
	s, other := begin(t, c), begin(t, c)
	c.W, c.Me, c.From, c.Owner = v("1"), ref(7, "10"), ref(1, "10"), api.Owner{Op: 1}
	wants(t, s, asks(was, was.From, api.QLock))
	a := filled(api.AOK)
	a.Right = tail(2)
	s.Tell(a)
	if string(a.Value) != "abc" || a.Right != tail(2) || a.Left != ref(2, "") || !a.Marked {
		t.Errorf("it changed an answer: %v", a)
	}
	a.Value[0], a.Right = 'x', ref(9, "10")
	x := s.Next()
	x.Kind, x.To, x.Ask = api.SWait, tail(2), api.Ask{}
	play(t, s,
		row{asks(was, was.Me, api.QRec, head(2), tail(2)), filled(api.AOK)},
		row{asks(was, head(2), api.QRight, was.Me), filled(api.AOK)},
		row{asks(was, tail(2), api.QLeft, was.Me), filled(api.AOK)},
		row{asks(was, was.Me, api.QFree), filled(api.AOK)},
		row{asks(was, head(2), api.QFree), filled(api.AOK)})
	x = s.Next()
	x.Result.Left, x.Result.Right, x.Result.E = ref(3, ""), ref(4, ""), api.ErrAgain
	wants(t, s, over(api.OK, head(2), tail(2)))
	// What one splice was told another one does not know.
	wants(t, other, asks(was, was.From, api.QLock))
}

// Rule 4: a splice that was copied goes its own way, behind Free, too.
func TestCopied(t *testing.T) {
	c := plain("", 0)
	s := played(t, c, row{asks(c, head(0), api.QLock), ok(ref(3, ""))})
	twin := *s
	wants(t, &twin, asks(c, head(0), api.QFree))
	twin.Tell(yes)
	wants(t, &twin, asks(c, ref(3, ""), api.QLock))
	wants(t, s, asks(c, head(0), api.QFree))
}
