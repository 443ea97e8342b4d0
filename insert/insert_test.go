package insert

import (
	"math"
	"reflect"
	"strings"
	"testing"

	"leapfrog/api"
)

const top = math.MaxUint64

// The keys at both ends.
var (
	lowest  = api.Key{Rank: api.RLow}
	highest = api.Key{Rank: api.RHigh}
)

// own is who locks, where nothing else is said.
var own = api.Owner{Agent: 3, Op: 4}

func at(n uint64) api.Key { return api.Key{Rank: api.RAt, N: n} }

// v is the vector of bits as a text; of no bits that is empty.
func v(bits string) api.Vec {
	w := api.Vec{Len: len(bits)}
	for _, c := range bits {
		w.Bits = w.Bits*2 + uint64(c-'0')
	}
	return w
}

// first is a vector's first bits.
func first(w api.Vec, n int) api.Vec {
	return api.Vec{Len: n, Bits: w.Bits >> (w.Len - n)}
}

// ref is a peer whose ID is its key's number and 10 more, so that one is not taken for the other.
func ref(n uint64, bits string) api.Ref {
	return api.Ref{ID: int(n) + 10, Key: at(n), Vec: v(bits)}
}

// low and high are the ends of a height.
func low(height int) api.Ref {
	return api.Ref{ID: 0, Key: lowest, Vec: api.Vec{Len: height}}
}

func high(height int) api.Ref {
	return api.Ref{ID: 1, Key: highest, Vec: api.Vec{Len: height}}
}

// wrongKeys are such as may not be.
func wrongKeys() []api.Key {
	return []api.Key{{}, {N: 5}, {Rank: api.RLow, N: 1}, {Rank: api.RLow, N: top}, {Rank: api.RHigh, N: 1}, {Rank: api.RHigh, N: top}, {Rank: 4}, {Rank: 4, N: 7}, {Rank: -1}, {Rank: math.MaxInt, N: 2}, {Rank: math.MinInt}}
}

// wrongVecs are such as may not be.
func wrongVecs() []api.Vec {
	return []api.Vec{{Bits: 1}, {Len: 1, Bits: 2}, {Len: 3, Bits: 8}, {Len: 32, Bits: 1 << 32}, {Len: 32, Bits: top}, {Len: 33}, {Len: 33, Bits: 1}, {Len: 64}, {Len: -1}, {Len: -1, Bits: 1}, {Len: math.MaxInt}, {Len: math.MinInt}}
}

// plain are settings of 5, of some bits, from the head.
func plain(bits string) api.InsertConf {
	return api.InsertConf{Height: len(bits), Me: ref(5, bits), Start: low(len(bits)), Owner: own}
}

// begin is an insertion that New makes.
func begin(t *testing.T, c api.InsertConf) *Insert {
	t.Helper()
	m, e := New(c)
	if e != api.OK || m == nil {
		t.Fatalf("New(%v) = %v, %d", c, m, e)
	}
	return m
}

// same tells whether two steps are alike in all.
func same(a, b api.Step) bool {
	return reflect.DeepEqual(a, b)
}

// reads is the step of a QRead of a list.
func reads(to api.Ref, w api.Vec) api.Step {
	return api.Step{Kind: api.SAsk, To: to, Ask: api.Ask{Kind: api.QRead, W: w}}
}

// below1 is the step of a Walk of a level, which reads the list below that.
func below1(c api.InsertConf, level int, on api.Ref) api.Step {
	return reads(on, first(c.Me.Vec, level-1))
}

// owned is the step of an ask of a level's list, by Owner.
func owned(c api.InsertConf, level int, to api.Ref, kind api.AskKind, refs ...api.Ref) api.Step {
	a := api.Ask{Kind: kind, W: first(c.Me.Vec, level), Owner: c.Owner}
	if len(refs) > 0 {
		a.Ref = refs[0]
	}
	if len(refs) > 1 {
		a.Ref2 = refs[1]
	}
	return api.Step{Kind: api.SAsk, To: to, Ask: a}
}

// lefts is the step of a QLeft, which has no Owner.
func lefts(c api.InsertConf, level int, to, left api.Ref) api.Step {
	return api.Step{Kind: api.SAsk, To: to, Ask: api.Ask{Kind: api.QLeft, W: first(c.Me.Vec, level), Ref: left}}
}

// joins is the step of a QJoined.
func joins(c api.InsertConf) api.Step {
	return api.Step{Kind: api.SAsk, To: c.Me, Ask: api.Ask{Kind: api.QJoined}}
}

// waits and over are the other steps.
func waits() api.Step { return api.Step{Kind: api.SWait} }

func over(e api.Errno) api.Step {
	return api.Step{Kind: api.SDone, Result: api.Result{E: e}}
}

// The answers.
func onRight(r api.Ref) api.Answer {
	return api.Answer{Kind: api.AOK, Right: r}
}

func onLeft(r api.Ref) api.Answer {
	return api.Answer{Kind: api.AOK, Left: r}
}

func kind(k api.AnswerKind) api.Answer {
	return api.Answer{Kind: k}
}

var yes, no, gone, dead = kind(api.AOK), kind(api.ANo), kind(api.AGone), kind(api.ADead)

// filled is an answer of a kind with all that an answer can have.
func filled(k api.AnswerKind) api.Answer {
	return api.Answer{Kind: k, Marked: true, Left: ref(2, ""), Right: ref(90, ""), Value: []byte("abc")}
}

// answers are those of all kinds, and of none, but some; without anything, and with all.
func answers(but ...api.AnswerKind) []api.Answer {
	var l []api.Answer
	left := map[api.AnswerKind]int{}
	for _, k := range but {
		left[k]++
	}
	for _, k := range []api.AnswerKind{0, api.AOK, api.AGone, api.ADead, api.ANo, 5, -1, math.MaxInt, math.MinInt} {
		if left[k] == 0 {
			l = append(l, kind(k), filled(k))
		}
	}
	return l
}

// wants asks an insertion for its step, twice.
func wants(t *testing.T, m *Insert, want api.Step) {
	t.Helper()
	for range 2 {
		if x := m.Next(); !same(x, want) {
			t.Fatalf("wants %v; not %v", x, want)
		}
	}
}

// row is what an insertion must want, and what it is told then; where it waits, that is a tick.
type row struct {
	want api.Step
	a    api.Answer
}

// rows are some, one behind the other, in new memory.
func rows(l ...[]row) []row {
	var all []row
	for _, r := range l {
		all = append(all, r...)
	}
	return all
}

// play plays rows.
func play(t *testing.T, m *Insert, l ...row) {
	t.Helper()
	for i, r := range l {
		for range 2 {
			if x := m.Next(); !same(x, r.want) {
				t.Fatalf("row %d: wants %v; not %v", i, x, r.want)
			}
		}
		if r.want.Kind == api.SWait {
			m.Wake()
		} else {
			m.Tell(r.a)
		}
	}
}

// played is an insertion that has played rows.
func played(t *testing.T, c api.InsertConf, l ...[]row) *Insert {
	t.Helper()
	m := begin(t, c)
	play(t, m, rows(l...)...)
	return m
}

// sought are the rows of a search from the head, which ends between two: who is to the left is the head, or stands right of it in the list of no bits.
func sought(c api.InsertConf, left, right api.Ref) []row {
	var l []row
	h := low(c.Height)
	for n := c.Height; n > 0; n-- {
		l = append(l, row{reads(h, api.Vec{Len: n}), onRight(high(c.Height))})
	}
	if left == h {
		return append(l, row{reads(h, v("")), onRight(right)})
	}
	return append(l, row{reads(h, v("")), onRight(left)}, row{reads(left, v("")), onRight(right)})
}

// entered are the rows of a splice into a level's list, between two, told AOK each time.
func entered(c api.InsertConf, level int, left, right api.Ref) []row {
	return []row{
		{owned(c, level, left, api.QLock), onRight(right)},
		{owned(c, level, c.Me, api.QRec, left, right), yes},
		{owned(c, level, left, api.QRight, c.Me), yes},
		{lefts(c, level, right, c.Me), yes},
		{owned(c, level, c.Me, api.QFree), yes},
		{owned(c, level, left, api.QFree), yes},
	}
}

// risen are the rows up to Walk of a level, or, of one above the height, up to Join; each splice is between the ends. Of level 0: those up to its splice.
func risen(c api.InsertConf, level int) []row {
	h, end := low(c.Height), high(c.Height)
	l := sought(c, h, end)
	for n := range level {
		if n > 0 {
			l = append(l, row{below1(c, n, c.Me), onLeft(h)})
		}
		l = append(l, entered(c, n, h, end)...)
	}
	return l
}

// toSplice are the rows up to the splice of a level, from the head.
func toSplice(c api.InsertConf, level int) []row {
	l := risen(c, level)
	if level > 0 {
		l = append(l, row{below1(c, level, c.Me), onLeft(low(c.Height))})
	}
	return l
}

// P15.1: settings that may be: it is at Seek, and reads Start.
func TestNew(t *testing.T) {
	all := strings.Repeat("10", 16)
	l := []api.InsertConf{
		plain(""), plain("1"), plain("101"), plain(all[:31]), plain(all),
		{Me: api.Ref{Key: at(0)}, Start: low(0), Owner: own},
		{Me: api.Ref{Key: at(top)}, Start: low(0), Owner: own},
		{Height: 32, Me: api.Ref{Key: at(5), Vec: api.Vec{Len: 32, Bits: 1<<32 - 1}}, Start: high(32), Owner: own},
		// The owners at the edges.
		{Me: ref(5, ""), Start: low(0), Owner: api.Owner{Agent: 0, Op: 1}},
		{Me: ref(5, ""), Start: low(0), Owner: api.Owner{Agent: api.MaxPeers - 1, Op: api.MaxOps}},
	}
	// It may begin with anybody, above Me and of its key, too. IDs are not asked for.
	for _, start := range []api.Ref{low(2), high(2), ref(4, "01"), ref(5, "10"), ref(6, "11"), ref(0, "00"), {ID: -1, Key: at(top), Vec: v("11")}, {ID: math.MaxInt, Key: lowest, Vec: v("11")}} {
		for _, id := range []int{15, 0, 1, -1, math.MaxInt, math.MinInt} {
			l = append(l, api.InsertConf{Height: 2, Me: api.Ref{ID: id, Key: at(5), Vec: v("10")}, Start: start, Owner: own})
		}
	}
	for _, c := range l {
		wants(t, begin(t, c), reads(c.Start, c.Start.Vec))
	}
}

// wrong are settings that may not be, each by one of their parts.
func wrong() []api.InsertConf {
	var l []api.InsertConf
	put := func(change func(c *api.InsertConf)) {
		c := plain("101")
		change(&c)
		l = append(l, c)
	}
	// Me's key is another one, whoever begins.
	for _, k := range append(wrongKeys(), lowest, highest) {
		for _, start := range []api.Ref{low(3), high(3), ref(4, "101")} {
			put(func(c *api.InsertConf) { c.Me.Key, c.Start = k, start })
		}
	}
	// Me's vector may not be, or has fewer bits, or more.
	for _, w := range append(wrongVecs(), v(""), v("1"), v("10"), v("1010"), v(strings.Repeat("1", 32))) {
		put(func(c *api.InsertConf) { c.Me.Vec = w })
		if w.Len > 32 || w.Len < 0 || w.Bits>>w.Len > 0 {
			put(func(c *api.InsertConf) { c.Height, c.Me.Vec, c.Start.Vec = w.Len, w, w })
			put(func(c *api.InsertConf) { c.Height, c.Me.Vec, c.Start = w.Len, w, low(w.Len) })
		}
	}
	for _, height := range []int{-1, 33, 64, math.MinInt, math.MaxInt, 0, 2, 4, 32} {
		put(func(c *api.InsertConf) { c.Height = height })
		// Of one that may be, Me's vector alone is not of that height, or the start's alone.
		put(func(c *api.InsertConf) { c.Height, c.Start.Vec.Len = height, height })
		put(func(c *api.InsertConf) { c.Height, c.Me.Vec = height, api.Vec{Len: height} })
	}
	for _, w := range append(wrongVecs(), v(""), v("1"), v("10"), v("1010")) {
		put(func(c *api.InsertConf) { c.Start = api.Ref{ID: 4, Key: at(3), Vec: w} })
	}
	for _, k := range wrongKeys() {
		put(func(c *api.InsertConf) { c.Start.Key = k })
	}
	for _, o := range []api.Owner{{}, {Agent: 3}, {Agent: -1, Op: 4}, {Agent: api.MaxPeers, Op: 4}, {Agent: 3, Op: -1}, {Agent: 3, Op: api.MaxOps + 1}, {Agent: math.MinInt, Op: math.MaxInt}} {
		put(func(c *api.InsertConf) { c.Owner = o })
	}
	return append(l, api.InsertConf{})
}

// P15.1: settings that may not be.
func TestNewWrong(t *testing.T) {
	for _, c := range wrong() {
		if m, e := New(c); e != api.ErrInsert || m != nil {
			t.Errorf("New(%v) = %v, %d", c, m, e)
		}
	}
	if api.ErrInsert != 150 {
		t.Error(api.ErrInsert)
	}
}

// P15.1 and rule 3: an Insert that is nil, or that New did not make, tells zero values, whatever it is told.
func TestNotMade(t *testing.T) {
	for _, m := range []*Insert{nil, {}, new(Insert)} {
		for _, a := range answers() {
			m.Tell(a)
			wants(t, m, api.Step{})
			m.Wake()
			wants(t, m, api.Step{})
		}
	}
}

// P15.1: the example of the chapter.
func TestExample(t *testing.T) {
	c := plain("")
	h, me, end := low(0), c.Me, high(0)
	m := begin(t, c)
	play(t, m,
		row{reads(h, v("")), onRight(end)},
		row{owned(c, 0, h, api.QLock), onRight(end)},
		row{owned(c, 0, me, api.QRec, h, end), yes},
		row{owned(c, 0, h, api.QRight, me), yes},
		row{lefts(c, 0, end, me), yes},
		row{owned(c, 0, me, api.QFree), yes},
		row{owned(c, 0, h, api.QFree), yes},
		row{joins(c), yes})
	wants(t, m, over(api.OK))
}

// P15.1: of height 1: its search goes down, and behind the list of no bits it walks to that of one.
func TestHeight1(t *testing.T) {
	c := plain("1")
	four, three, two, six, nine := ref(4, "0"), ref(3, "0"), ref(2, "1"), ref(6, "0"), ref(9, "1")
	h := low(1)
	m := begin(t, c)
	play(t, m,
		// Seek
		row{reads(h, v("0")), onRight(three)},
		row{reads(three, v("0")), onRight(four)},
		row{reads(four, v("0")), onRight(six)},
		row{reads(four, v("")), onRight(six)},
		// Splice of level 0
		row{owned(c, 0, four, api.QLock), onRight(six)},
		row{owned(c, 0, c.Me, api.QRec, four, six), yes},
		row{owned(c, 0, four, api.QRight, c.Me), yes},
		row{lefts(c, 0, six, c.Me), yes},
		row{owned(c, 0, c.Me, api.QFree), yes},
		row{owned(c, 0, four, api.QFree), yes},
		// Walk of level 1
		row{reads(c.Me, v("")), onLeft(four)},
		row{reads(four, v("")), onLeft(three)},
		row{reads(three, v("")), onLeft(two)},
		// Splice of level 1
		row{owned(c, 1, two, api.QLock), onRight(nine)},
		row{owned(c, 1, c.Me, api.QRec, two, nine), yes},
		row{owned(c, 1, two, api.QRight, c.Me), yes},
		row{lefts(c, 1, nine, c.Me), yes},
		row{owned(c, 1, c.Me, api.QFree), yes},
		row{owned(c, 1, two, api.QFree), yes},
		// Join
		row{joins(c), yes})
	wants(t, m, over(api.OK))
}

// P15.1: of each height it comes into as many lists as that, and one, from below.
func TestHeights(t *testing.T) {
	all := strings.Repeat("0110", 8)
	for height := range api.MaxVec + 1 {
		c := plain(all[:height])
		m := played(t, c, risen(c, height+1), []row{{joins(c), yes}})
		wants(t, m, over(api.OK))
	}
}

// everywhere are insertions at each place at which one can be.
func everywhere(t *testing.T) map[string]*Insert {
	t.Helper()
	c := plain("10")
	h, end := low(2), high(2)
	to := func(level, n int) *Insert {
		return played(t, c, toSplice(c, level), entered(c, level, h, end)[:n])
	}
	not := func(level int, a api.Answer) *Insert {
		m := to(level, 0)
		m.Tell(a)
		return m
	}
	told := func(m *Insert, l ...api.Answer) *Insert {
		for _, a := range l {
			m.Tell(a)
		}
		return m
	}
	return map[string]*Insert{
		"Seek": begin(t, c), "Seek on": played(t, c, sought(c, h, end)[:2]), "Seek again": not(0, gone),
		"Lock": to(0, 0), "Enter": to(0, 1), "Right": to(0, 2), "Left": to(0, 3), "Mine": to(0, 4), "Free": to(0, 5),
		"Same": told(to(0, 0), onRight(ref(5, "01"))), "Out": told(to(0, 2), no),
		"Lock 2": to(2, 0), "Enter 2": to(2, 1), "Right 2": to(2, 2), "Left 2": to(2, 3), "Mine 2": to(2, 4), "Free 2": to(2, 5),
		"wait": not(0, no), "wait 1": not(1, no), "wait 2": not(2, no),
		"Walk 1": to(0, 6), "Walk 2": to(1, 6), "Walk 2 on": told(to(1, 6), onLeft(ref(3, "11"))),
		"Join": to(2, 6), "end": told(to(2, 6), yes),
		"ErrDead": told(to(2, 6), dead), "ErrTaken": told(to(0, 1), no, yes), "ErrExists": told(to(0, 0), onRight(ref(5, "01")), yes, yes),
	}
}

// P15.1: a tick is nothing, but where it waits: there it asks for the lock again.
func TestWake(t *testing.T) {
	level := map[string]int{"wait": 0, "wait 1": 1, "wait 2": 2}
	c := plain("10")
	waited := 0
	for name, m := range everywhere(t) {
		before := m.Next()
		if n, is := level[name]; is {
			wants(t, m, waits())
			before = owned(c, n, low(2), api.QLock)
			waited++
		} else if before.Kind == api.SWait {
			t.Fatalf("%s waits", name)
		}
		for range 3 {
			m.Wake()
			wants(t, m, before)
		}
	}
	if waited != 3 {
		t.Error(waited)
	}
}

// P15.1: an answer is nothing, while it waits, and behind the end.
func TestTellNobody(t *testing.T) {
	tried := 0
	for name, m := range everywhere(t) {
		before := m.Next()
		if before.Kind == api.SAsk {
			continue
		}
		tried++
		for _, a := range answers() {
			m.Tell(a)
			wants(t, m, before)
		}
		if before.Kind == api.SDone {
			m.Wake()
			wants(t, m, before)
			continue
		}
		// What it is told behind the tick counts again.
		m.Wake()
		lock := m.Next()
		m.Tell(onRight(high(2)))
		if x := m.Next(); lock.Ask.Kind != api.QLock || x.Ask.Kind != api.QRec || x.Ask.W != lock.Ask.W {
			t.Errorf("%s: wants %v, then %v", name, lock, x)
		}
	}
	if tried != 7 {
		t.Error(tried)
	}
}

// P15.1: each end's step has its result alone, of that E alone.
func TestEnds(t *testing.T) {
	all := everywhere(t)
	wants(t, all["end"], over(api.OK))
	wants(t, all["ErrDead"], over(api.ErrDead))
	wants(t, all["ErrTaken"], over(api.ErrTaken))
	wants(t, all["ErrExists"], over(api.ErrExists))
}

// P15.1: Next changes nothing: asked any number of times, it tells the same, and what comes behind is as if it was not asked.
func TestNextAgain(t *testing.T) {
	for name := range everywhere(t) {
		for _, a := range []api.Answer{yes, no, gone, dead, onRight(high(2)), onLeft(ref(3, "10"))} {
			m, other := everywhere(t)[name], everywhere(t)[name]
			for range 5 {
				m.Next()
			}
			for range 5 {
				m.Tell(a)
				other.Tell(a)
				wants(t, m, m.Next())
				m.Wake()
				other.Wake()
				m.Next()
			}
			if x, y := m.Next(), other.Next(); !same(x, y) {
				t.Errorf("%s: %v, %v", name, x, y)
			}
		}
	}
}

// Rule 4: nothing is shared with what was handed in, or with what was handed out, or with another insertion.
func TestApart(t *testing.T) {
	c := plain("10")
	was := c
	m, other := begin(t, c), begin(t, c)
	c.Height, c.Me, c.Start, c.Owner = 1, ref(7, "0"), ref(1, "0"), api.Owner{Op: 1}
	for _, r := range append(risen(was, 3), row{joins(was), yes}) {
		wants(t, m, r.want)
		x := m.Next()
		x.Kind, x.To, x.Ask, x.Result = api.SWait, high(2), api.Ask{}, api.Result{E: api.ErrDead}
		r.a.Value = []byte("abc")
		a := r.a
		m.Tell(a)
		if string(a.Value) != "abc" || !reflect.DeepEqual(a, r.a) {
			t.Errorf("it changed an answer: %v", a)
		}
		a.Value[0], a.Left, a.Right = 'x', ref(1, "10"), ref(9, "10")
	}
	wants(t, m, over(api.OK))
	x := m.Next()
	x.Result.E, x.Result.Left, x.Result.Items = api.ErrDead, low(2), []api.Item{{Key: 1}}
	wants(t, m, over(api.OK))
	// What one insertion was told another one does not know.
	wants(t, other, reads(was.Start, was.Start.Vec))
	play(t, other, risen(was, 3)...)
	wants(t, other, joins(was))
}
