package unsplice

import (
	"math"
	"reflect"
	"strings"
	"testing"

	"leapfrog/api"
)

const top = math.MaxUint64

// The keys at both ends.
var (
	lowest  = api.Key{Rank: api.RLow}
	highest = api.Key{Rank: api.RHigh}
)

// own is who locks, where nothing else is said.
var own = api.Owner{Agent: 3, Op: 4}

func at(n uint64) api.Key { return api.Key{Rank: api.RAt, N: n} }

// v is the vector of bits as a text; of no bits that is empty.
func v(bits string) api.Vec {
	w := api.Vec{Len: len(bits)}
	for _, c := range bits {
		w.Bits = w.Bits*2 + uint64(c-'0')
	}
	return w
}

// ref is a peer whose ID is its key's number and 10 more, so that one is not taken for the other.
func ref(n uint64, bits string) api.Ref {
	return api.Ref{ID: int(n) + 10, Key: at(n), Vec: v(bits)}
}

// head and tail are the ends of a height.
func head(height int) api.Ref {
	return api.Ref{ID: 0, Key: lowest, Vec: api.Vec{Len: height}}
}

func tail(height int) api.Ref {
	return api.Ref{ID: 1, Key: highest, Vec: api.Vec{Len: height}}
}

// wrongKeys are such as may not be.
func wrongKeys() []api.Key {
	return []api.Key{{}, {N: 5}, {Rank: api.RLow, N: 1}, {Rank: api.RLow, N: top}, {Rank: api.RHigh, N: 1}, {Rank: api.RHigh, N: top}, {Rank: 4}, {Rank: 4, N: 7}, {Rank: -1}, {Rank: math.MaxInt, N: 2}, {Rank: math.MinInt}}
}

// wrongVecs are such as may not be.
func wrongVecs() []api.Vec {
	return []api.Vec{{Bits: 1}, {Len: 1, Bits: 2}, {Len: 3, Bits: 8}, {Len: 32, Bits: 1 << 32}, {Len: 32, Bits: top}, {Len: 33}, {Len: 33, Bits: 1}, {Len: 64}, {Len: -1}, {Len: -1, Bits: 1}, {Len: math.MaxInt}, {Len: math.MinInt}}
}

// plain are settings of 5, of some bits, out of the list of its first ones.
func plain(bits string, level int) api.UnspliceConf {
	return api.UnspliceConf{W: v(bits[:level]), Me: ref(5, bits), Owner: own}
}

// begin is a machine that New makes.
func begin(t *testing.T, c api.UnspliceConf) *Unsplice {
	t.Helper()
	u, e := New(c)
	if e != api.OK || u == nil {
		t.Fatalf("New(%v) = %v, %d", c, u, e)
	}
	return u
}

// same tells whether two steps are alike in all.
func same(a, b api.Step) bool {
	return reflect.DeepEqual(a, b)
}

// asks is the step of an ask of the list of the settings; Owner stands where the ask has one, as chapter 4 says.
func asks(c api.UnspliceConf, to api.Ref, kind api.AskKind, refs ...api.Ref) api.Step {
	a := api.Ask{Kind: kind, W: c.W}
	if kind != api.QRead && kind != api.QLeft {
		a.Owner = c.Owner
	}
	if len(refs) > 0 {
		a.Ref = refs[0]
	}
	return api.Step{Kind: api.SAsk, To: to, Ask: a}
}

// waits and over are the other steps.
func waits() api.Step { return api.Step{Kind: api.SWait} }

func over(e api.Errno) api.Step {
	return api.Step{Kind: api.SDone, Result: api.Result{E: e}}
}

// between is AOK, with both sides.
func between(left, right api.Ref) api.Answer {
	return api.Answer{Kind: api.AOK, Left: left, Right: right}
}

func kind(k api.AnswerKind) api.Answer {
	return api.Answer{Kind: k}
}

var yes, no, gone, dead = kind(api.AOK), kind(api.ANo), kind(api.AGone), kind(api.ADead)

// filled is an answer of a kind with all that an answer can have.
func filled(k api.AnswerKind) api.Answer {
	return api.Answer{Kind: k, Marked: true, Left: ref(2, ""), Right: ref(90, ""), Value: []byte("abc")}
}

// answers are those of all kinds, and of none, but some; without anything, and with all.
func answers(but ...api.AnswerKind) []api.Answer {
	var l []api.Answer
	left := map[api.AnswerKind]int{}
	for _, k := range but {
		left[k]++
	}
	for _, k := range []api.AnswerKind{0, api.AOK, api.AGone, api.ADead, api.ANo, 5, -1, math.MaxInt, math.MinInt} {
		if left[k] == 0 {
			l = append(l, kind(k), filled(k))
		}
	}
	return l
}

// wants asks a machine for its step, twice.
func wants(t *testing.T, u *Unsplice, want api.Step) {
	t.Helper()
	for range 2 {
		if x := u.Next(); !same(x, want) {
			t.Fatalf("wants %v; not %v", x, want)
		}
	}
}

// row is what a machine must want, and what it is told then; where it waits, that is a tick.
type row struct {
	want api.Step
	a    api.Answer
}

// play plays rows.
func play(t *testing.T, u *Unsplice, rows ...row) {
	t.Helper()
	for _, r := range rows {
		wants(t, u, r.want)
		if r.want.Kind == api.SWait {
			u.Wake()
		} else {
			u.Tell(r.a)
		}
	}
}

// played is a machine that has played rows.
func played(t *testing.T, c api.UnspliceConf, rows ...row) *Unsplice {
	t.Helper()
	u := begin(t, c)
	play(t, u, rows...)
	return u
}

// out are the first rows of a machine that takes Me from between two, told AOK each time; the eighth is over.
func out(c api.UnspliceConf, p, s api.Ref, n int) []row {
	return []row{
		{asks(c, c.Me, api.QRead), between(p, s)},
		{asks(c, p, api.QLock), between(api.Ref{}, c.Me)},
		{asks(c, c.Me, api.QLock), between(p, s)},
		{asks(c, p, api.QRight, s), yes},
		{asks(c, s, api.QLeft, p), yes},
		{asks(c, c.Me, api.QOut), yes},
		{asks(c, p, api.QFree), yes},
	}[:n:n]
}

// P14.1: settings that may be: it is at the beginning, and reads Me.
func TestNew(t *testing.T) {
	all := strings.Repeat("10", 16)
	for _, c := range []api.UnspliceConf{
		plain("", 0), plain("101", 0), plain("101", 1), plain("101", 3), plain(all, 0), plain(all, 31), plain(all, 32),
		{Me: api.Ref{Key: at(0)}, Owner: own},
		{Me: api.Ref{Key: at(top)}, Owner: own},
		// The owners at the edges.
		{Me: ref(5, ""), Owner: api.Owner{Agent: 0, Op: 1}},
		{Me: ref(5, ""), Owner: api.Owner{Agent: api.MaxPeers - 1, Op: api.MaxOps}},
		// The ID is not asked for.
		{W: v("0"), Me: api.Ref{ID: -1, Key: at(5), Vec: v("01")}, Owner: own},
		{W: v("01"), Me: api.Ref{ID: math.MaxInt, Key: at(5), Vec: v("01")}, Owner: own},
		{Me: api.Ref{ID: math.MinInt, Key: at(5)}, Owner: own},
	} {
		wants(t, begin(t, c), asks(c, c.Me, api.QRead))
	}
}

// wrong are settings that may not be, each by one of their parts.
func wrong() []api.UnspliceConf {
	var l []api.UnspliceConf
	put := func(change func(c *api.UnspliceConf)) {
		c := plain("101", 2)
		change(&c)
		l = append(l, c)
	}
	for _, w := range append(wrongVecs(), v("0"), v("11"), v("1011"), v("1010"), v("100"), v("01"), v("0101")) {
		put(func(c *api.UnspliceConf) { c.W = w })
	}
	for _, w := range []api.Vec{v(""), v("1"), v("0"), v("01"), v("110"), v("001")} {
		put(func(c *api.UnspliceConf) { c.Me.Vec = w })
	}
	for _, w := range wrongVecs() {
		put(func(c *api.UnspliceConf) { c.Me.Vec = w })
		put(func(c *api.UnspliceConf) { c.W, c.Me.Vec = w, w })
		put(func(c *api.UnspliceConf) { c.W, c.Me.Vec = v(""), w })
	}
	for _, k := range append(wrongKeys(), lowest, highest) {
		put(func(c *api.UnspliceConf) { c.Me.Key = k })
		put(func(c *api.UnspliceConf) { c.W, c.Me = v(""), api.Ref{ID: 15, Key: k} })
	}
	for _, o := range []api.Owner{{}, {Agent: 3}, {Agent: -1, Op: 4}, {Agent: api.MaxPeers, Op: 4}, {Agent: 3, Op: -1}, {Agent: 3, Op: api.MaxOps + 1}, {Agent: math.MinInt, Op: math.MaxInt}} {
		put(func(c *api.UnspliceConf) { c.Owner = o })
	}
	return append(l, api.UnspliceConf{})
}

// P14.1: settings that may not be.
func TestNewWrong(t *testing.T) {
	for _, c := range wrong() {
		if u, e := New(c); e != api.ErrUnsplice || u != nil {
			t.Errorf("New(%v) = %v, %d", c, u, e)
		}
	}
	if api.ErrUnsplice != 140 {
		t.Error(api.ErrUnsplice)
	}
}

// P14.1, P14.2 and rule 3: a machine that is nil, or that New did not make, tells zero values, whatever it is told.
func TestNotMade(t *testing.T) {
	for _, u := range []*Unsplice{nil, {}, new(Unsplice)} {
		for _, a := range answers() {
			u.Tell(a)
			wants(t, u, api.Step{})
			u.Wake()
			wants(t, u, api.Step{})
		}
	}
}

// P14.2: the example of the chapter.
func TestExample(t *testing.T) {
	c := plain("", 0)
	a, x, b := ref(3, ""), c.Me, ref(8, "")
	u := played(t, c,
		row{asks(c, x, api.QRead), between(a, b)},
		row{asks(c, a, api.QLock), between(head(0), x)},
		row{asks(c, x, api.QLock), between(a, b)},
		row{asks(c, a, api.QRight, b), yes},
		row{asks(c, b, api.QLeft, a), yes},
		row{asks(c, x, api.QOut), yes},
		row{asks(c, a, api.QFree), yes})
	wants(t, u, over(api.OK))
}

// everywhere are machines at each place at which one can be.
func everywhere(t *testing.T) map[string]*Unsplice {
	t.Helper()
	c := plain("10", 1)
	p, s := ref(3, "11"), ref(8, "10")
	to := func(n int) *Unsplice { return played(t, c, out(c, p, s, n)...) }
	not := func(n int, a api.Answer) *Unsplice {
		u := to(n)
		u.Tell(a)
		return u
	}
	return map[string]*Unsplice{
		"1": to(0), "2": to(1), "3": to(2), "4": to(3), "5": to(4), "6": to(5),
		"7": not(3, no), "8": to(6), "8, and it waits": not(2, no), "8, and ErrDead": not(5, dead),
		"wait": not(0, no), "end": to(7), "ErrDead": not(0, dead),
	}
}

// P14.1: a tick is nothing, but where it waits: there it begins again.
func TestWake(t *testing.T) {
	for name, u := range everywhere(t) {
		before := u.Next()
		if name == "wait" {
			wants(t, u, waits())
			before = asks(plain("10", 1), plain("10", 1).Me, api.QRead)
		}
		for range 3 {
			u.Wake()
			wants(t, u, before)
		}
	}
}

// P14.1: it begins again from whichever wait, and goes by what it is told anew.
func TestBeginAgain(t *testing.T) {
	c := plain("10", 1)
	p, s := ref(3, "11"), ref(8, "10")
	q, r := ref(4, "11"), ref(6, "10")
	free := row{asks(c, p, api.QFree), yes}
	for _, rows := range [][]row{
		{{asks(c, c.Me, api.QRead), no}},
		append(out(c, p, s, 1), row{asks(c, p, api.QLock), no}),
		append(out(c, p, s, 1), row{asks(c, p, api.QLock), between(head(2), s)}, free),
		append(out(c, p, s, 2), row{asks(c, c.Me, api.QLock), no}, free),
		append(out(c, p, s, 3), row{asks(c, p, api.QRight, s), no}, row{asks(c, c.Me, api.QFree), yes}, free),
	} {
		u := begin(t, c)
		for range 3 {
			play(t, u, append(rows, row{want: waits()})...)
		}
		play(t, u, out(c, q, r, 7)...)
		wants(t, u, over(api.OK))
	}
}

// P14.1, P14.2: an answer is nothing, while it waits, and behind the end.
func TestTellNobody(t *testing.T) {
	for _, name := range []string{"wait", "end", "ErrDead"} {
		u := everywhere(t)[name]
		before := u.Next()
		if before.Kind != api.SWait && before.Kind != api.SDone {
			t.Fatalf("%s: wants %v", name, before)
		}
		for _, a := range answers() {
			u.Tell(a)
			wants(t, u, before)
		}
	}
	// It waits behind 8, too, and begins then as if nothing had been told.
	c := plain("", 0)
	p, s := ref(3, ""), ref(8, "")
	u := played(t, c, append(out(c, p, s, 2), row{asks(c, c.Me, api.QLock), no}, row{asks(c, p, api.QFree), yes})...)
	for _, a := range answers() {
		u.Tell(a)
		wants(t, u, waits())
	}
	u.Wake()
	wants(t, u, asks(c, c.Me, api.QRead))
}

// P14.1: the ends' steps have their results alone, E alone.
func TestEnds(t *testing.T) {
	all := everywhere(t)
	wants(t, all["wait"], waits())
	wants(t, all["end"], over(api.OK))
	wants(t, all["ErrDead"], over(api.ErrDead))
}

// P14.1: Next changes nothing: asked any number of times, it tells the same, and what comes behind is as if it was not asked.
func TestNextAgain(t *testing.T) {
	for name, u := range everywhere(t) {
		other := everywhere(t)[name]
		for range 5 {
			u.Next()
		}
		for range 5 {
			u.Tell(yes)
			other.Tell(yes)
			u.Next()
		}
		if a, b := u.Next(), other.Next(); !same(a, b) {
			t.Errorf("%s: %v, %v", name, a, b)
		}
	}
}

// Rule 4: nothing is shared with what was handed in, or with what was handed out, or with another machine.
func TestApart(t *testing.T) {
	c := plain("10", 1)
	was := c
	p, s := ref(3, "11"), tail(2)
	u, other := begin(t, c), begin(t, c)
	c.W, c.Me, c.Owner = v("0"), ref(7, "00"), api.Owner{Op: 1}
	for i, r := range out(was, p, s, 7) {
		wants(t, u, r.want)
		x := u.Next()
		x.Kind, x.To, x.Ask, x.Result = api.SWait, tail(2), api.Ask{}, api.Result{E: api.ErrDead}
		r.a.Marked, r.a.Value = i%2 == 0, []byte("abc")
		a := r.a
		u.Tell(a)
		if string(a.Value) != "abc" || !reflect.DeepEqual(a, r.a) {
			t.Errorf("it changed an answer: %v", a)
		}
		a.Value[0], a.Left, a.Right = 'x', ref(1, "10"), ref(9, "10")
	}
	wants(t, u, over(api.OK))
	x := u.Next()
	x.Result.E, x.Result.Left, x.Result.Items = api.ErrDead, p, []api.Item{{Key: 1}}
	wants(t, u, over(api.OK))
	// What one machine was told another one does not know.
	wants(t, other, asks(was, was.Me, api.QRead))
}

// Rule 4: a machine that was copied goes its own way.
func TestCopied(t *testing.T) {
	c := plain("", 0)
	p, s := ref(3, ""), ref(8, "")
	u := played(t, c, out(c, p, s, 5)...)
	twin := *u
	twin.Tell(dead)
	play(t, &twin, row{asks(c, p, api.QFree), yes})
	wants(t, &twin, over(api.ErrDead))
	play(t, u, out(c, p, s, 7)[5:]...)
	wants(t, u, over(api.OK))
}
