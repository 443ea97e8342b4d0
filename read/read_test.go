package read

import (
	"math"
	"reflect"
	"strings"
	"testing"

	"leapfrog/api"
)

const top = math.MaxUint64

// The keys at both ends.
var (
	lowest  = api.Key{Rank: api.RLow}
	highest = api.Key{Rank: api.RHigh}
)

func at(n uint64) api.Key { return api.Key{Rank: api.RAt, N: n} }

// v is the vector of bits as a text; of no bits that is empty.
func v(bits string) api.Vec {
	w := api.Vec{Len: len(bits)}
	for _, c := range bits {
		w.Bits = w.Bits*2 + uint64(c-'0')
	}
	return w
}

// first is a vector's first bits.
func first(w api.Vec, n int) api.Vec {
	return api.Vec{Len: n, Bits: w.Bits >> (w.Len - n)}
}

// ref is a peer whose ID is its key's number and 10 more, so that one is not taken for the other.
func ref(n uint64, bits string) api.Ref {
	return api.Ref{ID: int(n) + 10, Key: at(n), Vec: v(bits)}
}

// low and high are the ends of a height.
func low(height int) api.Ref {
	return api.Ref{ID: 0, Key: lowest, Vec: api.Vec{Len: height}}
}

func high(height int) api.Ref {
	return api.Ref{ID: 1, Key: highest, Vec: api.Vec{Len: height}}
}

// wrongKeys are such as may not be.
func wrongKeys() []api.Key {
	return []api.Key{{}, {N: 5}, {Rank: api.RLow, N: 1}, {Rank: api.RLow, N: top}, {Rank: api.RHigh, N: 1}, {Rank: api.RHigh, N: top}, {Rank: 4}, {Rank: 4, N: 7}, {Rank: -1}, {Rank: math.MaxInt, N: 2}, {Rank: math.MinInt}}
}

// wrongVecs are such as may not be.
func wrongVecs() []api.Vec {
	return []api.Vec{{Bits: 1}, {Len: 1, Bits: 2}, {Len: 3, Bits: 8}, {Len: 32, Bits: 1 << 32}, {Len: 32, Bits: top}, {Len: 33}, {Len: 33, Bits: 1}, {Len: 64}, {Len: -1}, {Len: -1, Bits: 1}, {Len: math.MaxInt}, {Len: math.MinInt}}
}

// plain are settings for key 5, in a height, from the head.
func plain(height int, ceil bool) api.ReadConf {
	return api.ReadConf{Height: height, Start: low(height), Key: 5, Ceil: ceil}
}

// both are those of a Get, and of a Ceil.
func both(height int) []api.ReadConf {
	return []api.ReadConf{plain(height, false), plain(height, true)}
}

// begin is a reading that New makes.
func begin(t *testing.T, c api.ReadConf) *Read {
	t.Helper()
	m, e := New(c)
	if e != api.OK || m == nil {
		t.Fatalf("New(%v) = %v, %d", c, m, e)
	}
	return m
}

// same tells whether two steps are alike in all; a value that is empty is none.
func same(a, b api.Step) bool {
	for _, x := range []*api.Step{&a, &b} {
		if len(x.Result.Value) == 0 {
			x.Result.Value = nil
		}
	}
	return reflect.DeepEqual(a, b)
}

// reads is the step of a QRead of a list.
func reads(to api.Ref, w api.Vec) api.Step {
	return api.Step{Kind: api.SAsk, To: to, Ask: api.Ask{Kind: api.QRead, W: w}}
}

// gets is the step of a QGet.
func gets(to api.Ref) api.Step {
	return api.Step{Kind: api.SAsk, To: to, Ask: api.Ask{Kind: api.QGet}}
}

// waits, over and tells are the other steps.
func waits() api.Step { return api.Step{Kind: api.SWait} }

func over(e api.Errno) api.Step {
	return api.Step{Kind: api.SDone, Result: api.Result{E: e}}
}

func tells(k uint64, value string) api.Step {
	return api.Step{Kind: api.SDone, Result: api.Result{Key: k, Value: []byte(value), Found: true}}
}

// The answers.
func onRight(r api.Ref) api.Answer {
	return api.Answer{Kind: api.AOK, Right: r}
}

func onLeft(r api.Ref) api.Answer {
	return api.Answer{Kind: api.AOK, Left: r}
}

func has(value string) api.Answer {
	return api.Answer{Kind: api.AOK, Left: ref(2, ""), Right: ref(90, ""), Value: []byte(value)}
}

func will(r api.Ref) api.Answer {
	return api.Answer{Kind: api.ADead, Right: r}
}

func kind(k api.AnswerKind) api.Answer {
	return api.Answer{Kind: k}
}

var yes, no, gone, dead = kind(api.AOK), kind(api.ANo), kind(api.AGone), kind(api.ADead)

// goes is the answer of one that is marked.
var goes = api.Answer{Kind: api.AOK, Marked: true}

// filled is an answer of a kind with all that an answer can have.
func filled(k api.AnswerKind) api.Answer {
	return api.Answer{Kind: k, Marked: true, Left: ref(2, ""), Right: ref(90, ""), Value: []byte("abc")}
}

// answers are those of all kinds, and of none, but some; without anything, and with all.
func answers(but ...api.AnswerKind) []api.Answer {
	var l []api.Answer
	left := map[api.AnswerKind]int{}
	for _, k := range but {
		left[k]++
	}
	for _, k := range []api.AnswerKind{0, api.AOK, api.AGone, api.ADead, api.ANo, 5, -1, math.MaxInt, math.MinInt} {
		if left[k] == 0 {
			l = append(l, kind(k), filled(k))
		}
	}
	return l
}

// wants asks a reading for its step, twice.
func wants(t *testing.T, m *Read, want api.Step) {
	t.Helper()
	for range 2 {
		if x := m.Next(); !same(x, want) {
			t.Fatalf("wants %v; not %v", x, want)
		}
	}
}

// row is what a reading must want, and what it is told then; where it waits, that is a tick.
type row struct {
	want api.Step
	a    api.Answer
}

// rows are some, one behind the other, in new memory.
func rows(l ...[]row) []row {
	var all []row
	for _, r := range l {
		all = append(all, r...)
	}
	return all
}

// play plays rows.
func play(t *testing.T, m *Read, l ...row) {
	t.Helper()
	for i, r := range l {
		for range 2 {
			if x := m.Next(); !same(x, r.want) {
				t.Fatalf("row %d: wants %v; not %v", i, x, r.want)
			}
		}
		if r.want.Kind == api.SWait {
			m.Wake()
		} else {
			m.Tell(r.a)
		}
	}
}

// played is a reading that has played rows.
func played(t *testing.T, c api.ReadConf, l ...[]row) *Read {
	t.Helper()
	m := begin(t, c)
	play(t, m, rows(l...)...)
	return m
}

// sought are the rows of a search from the head, which ends between two: who is to the left is the head, or stands right of it in the list of no bits.
func sought(height int, left, right api.Ref) []row {
	var l []row
	h := low(height)
	for n := height; n > 0; n-- {
		l = append(l, row{reads(h, api.Vec{Len: n}), onRight(high(height))})
	}
	if left == h {
		return append(l, row{reads(h, v("")), onRight(right)})
	}
	return append(l, row{reads(h, v("")), onRight(left)}, row{reads(left, v("")), onRight(right)})
}

// toRead are the rows of a Ceil up to its QRead of who is to the left: who is to the right is dead.
func toRead(height int, left, right, behind api.Ref) []row {
	return append(sought(height, left, right), row{gets(right), will(behind)})
}

// toWait are those up to a wait, and the tick.
func toWait(height int) []row {
	x := ref(7, strings.Repeat("1", height))
	return append(sought(height, low(height), x), row{gets(x), no}, row{want: waits()})
}

// often are rows, so many times.
func often(n int, l []row) []row {
	var all []row
	for range n {
		all = append(all, l...)
	}
	return all
}

// P17.1: settings that may be, any Key among them, of a Get and of a Ceil: it reads Start.
func TestNew(t *testing.T) {
	var l []api.ReadConf
	for _, height := range []int{0, 1, 3, 31, 32} {
		for _, k := range []uint64{0, 1, 5, 1 << 63, top} {
			l = append(l, api.ReadConf{Height: height, Start: low(height), Key: k}, api.ReadConf{Height: height, Start: high(height), Key: k})
		}
	}
	// It may begin with anybody, above the key and of that key, too. IDs are not asked for.
	for _, start := range []api.Ref{ref(4, "01"), ref(5, "10"), ref(6, "11"), ref(0, "00"), {ID: -1, Key: at(top), Vec: v("11")}, {ID: math.MaxInt, Key: lowest, Vec: v("11")}, {ID: math.MinInt, Key: highest, Vec: v("01")}} {
		l = append(l, api.ReadConf{Height: 2, Start: start, Key: 5})
	}
	l = append(l, api.ReadConf{Height: 32, Start: api.Ref{ID: 2, Key: at(1), Vec: api.Vec{Len: 32, Bits: 1<<32 - 1}}})
	for _, c := range l {
		for _, c.Ceil = range []bool{false, true} {
			wants(t, begin(t, c), reads(c.Start, c.Start.Vec))
		}
	}
}

// wrong are settings that may not be, each by one of their parts.
func wrong() []api.ReadConf {
	var l []api.ReadConf
	put := func(change func(c *api.ReadConf)) {
		for _, c := range both(3) {
			change(&c)
			l = append(l, c)
		}
	}
	for _, height := range []int{-1, 33, 64, math.MinInt, math.MaxInt} {
		put(func(c *api.ReadConf) { c.Height = height })
		put(func(c *api.ReadConf) { c.Height, c.Start.Vec.Len = height, height })
	}
	for _, height := range []int{0, 2, 4, 32} {
		// Of one that may be, and the start is of another one.
		put(func(c *api.ReadConf) { c.Height = height })
		put(func(c *api.ReadConf) { c.Start.Vec.Len = height })
	}
	for _, w := range wrongVecs() {
		put(func(c *api.ReadConf) { c.Start = api.Ref{ID: 4, Key: at(3), Vec: w} })
		put(func(c *api.ReadConf) { c.Height, c.Start.Vec = w.Len, w })
	}
	for _, k := range wrongKeys() {
		put(func(c *api.ReadConf) { c.Start.Key = k })
	}
	return append(l, api.ReadConf{}, api.ReadConf{Height: -1})
}

// P17.1: settings that may not be.
func TestNewWrong(t *testing.T) {
	for _, c := range wrong() {
		if m, e := New(c); e != api.ErrRead || m != nil {
			t.Errorf("New(%v) = %v, %d", c, m, e)
		}
	}
	if api.ErrRead != 170 {
		t.Error(api.ErrRead)
	}
}

// P17.1 and rule 3: a Read that is nil, or that New did not make, tells zero values, whatever it is told.
func TestNotMade(t *testing.T) {
	for _, m := range []*Read{nil, {}, new(Read)} {
		for _, a := range answers() {
			m.Tell(a)
			wants(t, m, api.Step{})
			m.Wake()
			wants(t, m, api.Step{})
		}
	}
}

// P17.1: the examples of the chapter.
func TestExample(t *testing.T) {
	h, end, five, nine := low(0), high(0), ref(5, ""), ref(9, "")
	none := v("")
	of := func(k uint64, ceil bool, l ...row) *Read {
		m := begin(t, api.ReadConf{Start: h, Key: k, Ceil: ceil})
		play(t, m, l...)
		return m
	}
	wants(t, of(9, false, row{reads(h, none), onRight(five)}, row{reads(five, none), onRight(nine)}, row{gets(nine), has("v")}), tells(9, "v"))
	wants(t, of(7, false, row{reads(h, none), onRight(five)}, row{reads(five, none), onRight(nine)}), over(api.ErrAbsent))
	wants(t, of(6, true, row{reads(h, none), onRight(five)}, row{reads(five, none), onRight(nine)}, row{gets(nine), has("v")}), tells(9, "v"))
	wants(t, of(6, true, row{reads(h, none), onRight(five)}, row{reads(five, none), onRight(nine)}, row{gets(nine), will(end)}, row{reads(five, none), onRight(nine)}), over(api.ErrAbsent))
}

// P17.1: of each height it goes down all lists, once.
func TestHeights(t *testing.T) {
	all := strings.Repeat("0110", 8)
	for height := range api.MaxVec + 1 {
		x := ref(5, all[:height])
		for _, c := range both(height) {
			wants(t, played(t, c, sought(height, low(height), x), []row{{gets(x), has("abc")}}), tells(5, "abc"))
		}
		wants(t, played(t, plain(height, true), toRead(height, low(height), x, high(height))), reads(low(height), v("")))
	}
}

// everywhere are readings at each place at which one can be.
func everywhere(t *testing.T) map[string]*Read {
	t.Helper()
	get, ceil := plain(2, false), plain(2, true)
	h, end, p, x, y, z := low(2), high(2), ref(3, "01"), ref(5, "10"), ref(7, "11"), ref(9, "11")
	with := func(m *Read, l ...row) *Read {
		play(t, m, l...)
		return m
	}
	told := func(m *Read, l ...api.Answer) *Read {
		for _, a := range l {
			m.Tell(a)
		}
		return m
	}
	busy := func(c api.ReadConf) *Read {
		m := begin(t, c)
		for range api.MaxTries + 1 {
			m.Tell(no)
		}
		return m
	}
	to := func(c api.ReadConf, right api.Ref) *Read { return played(t, c, sought(2, p, right)) }
	read := func() *Read { return played(t, ceil, toRead(2, p, y, z)) }
	tries := often(api.MaxTries, toWait(2))
	return map[string]*Read{
		"seek": begin(t, get), "seek on": played(t, get, sought(2, p, x)[:3]), "seek again": told(begin(t, get), gone),
		"seek ceil": begin(t, ceil), "seek on ceil": played(t, ceil, sought(2, p, y)[:3]), "seek anew": told(read(), no),
		"get": to(get, x), "get ceil": to(ceil, x), "get next": to(ceil, y), "get behind": with(read(), row{reads(p, v("")), onRight(y)}),
		"read": read(), "read from head": played(t, ceil, toRead(2, h, y, z)), "read behind": with(read(), row{reads(p, v("")), onRight(y)}, row{gets(z), will(end)}),
		"wait": told(to(ceil, x), no), "wait behind": with(read(), row{reads(p, v("")), onRight(y)}, row{gets(z), goes}),
		"wait last": played(t, ceil, tries, sought(2, p, x), []row{{gets(x), no}}),
		"OK":        told(to(get, x), has("abc")), "OK ceil": told(to(ceil, y), has("de")),
		"ErrAbsent": to(get, y), "ErrAbsent by answer": told(to(get, x), no), "ErrAbsent ceil": to(ceil, end),
		"ErrAbsent behind": with(read(), row{reads(p, v("")), onRight(end)}),
		"ErrBusy":          busy(get), "ErrBusy ceil": busy(ceil),
		"ErrBusy by tries": with(played(t, ceil, tries, sought(2, p, x), []row{{gets(x), no}}), row{want: waits()}),
	}
}

// P17.1: a tick is nothing, but where it waits: there it begins again, if it may.
func TestWake(t *testing.T) {
	waited := 0
	for name, m := range everywhere(t) {
		before := m.Next()
		if strings.HasPrefix(name, "wait") {
			wants(t, m, waits())
			before = reads(low(2), v("00"))
			if name == "wait last" {
				before = over(api.ErrBusy)
			}
			waited++
		} else if before.Kind == api.SWait {
			t.Fatalf("%s waits", name)
		}
		for range 3 {
			m.Wake()
			wants(t, m, before)
		}
	}
	if waited != 3 {
		t.Error(waited)
	}
}

// P17.1: an answer is nothing, while it waits, and behind the end.
func TestTellNobody(t *testing.T) {
	tried := 0
	for name, m := range everywhere(t) {
		before := m.Next()
		if before.Kind == api.SAsk {
			continue
		}
		tried++
		for _, a := range answers() {
			m.Tell(a)
			wants(t, m, before)
		}
		if before.Kind == api.SDone {
			m.Wake()
			wants(t, m, before)
			continue
		}
		// What it is told behind the tick counts again.
		m.Wake()
		if name != "wait last" {
			m.Tell(onRight(high(2)))
			wants(t, m, reads(low(2), v("0")))
		}
	}
	if tried != 12 {
		t.Error(tried)
	}
}

// P17.1: each end's step has its result alone: E, or what was found.
func TestEnds(t *testing.T) {
	ends := 0
	for name, m := range everywhere(t) {
		switch {
		case name == "OK":
			wants(t, m, tells(5, "abc"))
		case name == "OK ceil":
			wants(t, m, tells(7, "de"))
		case strings.HasPrefix(name, "ErrAbsent"):
			wants(t, m, over(api.ErrAbsent))
		case strings.HasPrefix(name, "ErrBusy"):
			wants(t, m, over(api.ErrBusy))
		default:
			continue
		}
		ends++
	}
	if ends != 9 || api.ErrAbsent != 101 || api.ErrBusy != 121 {
		t.Error(ends, api.ErrAbsent, api.ErrBusy)
	}
}

// P17.1: Next changes nothing: asked any number of times, it tells the same, and what comes behind is as if it was not asked.
func TestNextAgain(t *testing.T) {
	for name := range everywhere(t) {
		for _, a := range []api.Answer{yes, no, gone, dead, goes, has("abc"), onRight(high(2)), onRight(ref(7, "11")), will(ref(8, "10")), onLeft(ref(3, "10"))} {
			m, other := everywhere(t)[name], everywhere(t)[name]
			for range 5 {
				m.Next()
			}
			for range 5 {
				m.Tell(a)
				other.Tell(a)
				wants(t, m, m.Next())
				m.Wake()
				other.Wake()
				m.Next()
			}
			if x, y := m.Next(), other.Next(); !same(x, y) {
				t.Errorf("%s: %v, %v", name, x, y)
			}
		}
	}
}

// Rule 4: nothing is shared with what was handed in, or with what was handed out, or with another reading.
func TestApart(t *testing.T) {
	c, p, x, y := plain(2, true), ref(3, "01"), ref(5, "10"), ref(9, "11")
	was := c
	m, other := begin(t, c), begin(t, c)
	c.Height, c.Start, c.Key, c.Ceil = 1, ref(1, "0"), 7, false
	l := append(toRead(2, p, x, y), row{reads(p, v("")), onRight(x)}, row{gets(y), has("abc")})
	for _, r := range l {
		wants(t, m, r.want)
		s := m.Next()
		s.Kind, s.To, s.Ask, s.Result = api.SWait, high(2), api.Ask{}, api.Result{E: api.ErrDead}
		a := r.a
		a.Value = append([]byte{}, r.a.Value...)
		m.Tell(a)
		if string(a.Value) != string(r.a.Value) || a.Left != r.a.Left || a.Right != r.a.Right || a.Kind != r.a.Kind {
			t.Errorf("it changed an answer: %v", a)
		}
		for i := range a.Value {
			a.Value[i] = 'x'
		}
		a.Left, a.Right = ref(1, "10"), ref(4, "10")
	}
	wants(t, m, tells(9, "abc"))
	s := m.Next()
	s.Result.Value[0], s.Result.E, s.Result.Items = 'x', api.ErrDead, []api.Item{{Key: 1}}
	wants(t, m, tells(9, "abc"))
	s = m.Next()
	if m.Next().Result.Value[1] = 'y'; string(s.Result.Value) != "abc" {
		t.Error("two answers share a value")
	}
	// What one reading was told another one does not know.
	wants(t, other, reads(was.Start, was.Start.Vec))
	play(t, other, l...)
	wants(t, other, tells(9, "abc"))
}
