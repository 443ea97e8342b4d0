package scan

import (
	"math"
	"reflect"
	"slices"
	"strings"
	"testing"

	"leapfrog/api"
)

const top = math.MaxUint64

// The keys at both ends.
var (
	lowest  = api.Key{Rank: api.RLow}
	highest = api.Key{Rank: api.RHigh}
)

func at(n uint64) api.Key { return api.Key{Rank: api.RAt, N: n} }

// v is the vector of bits as a text; of no bits that is empty.
func v(bits string) api.Vec {
	w := api.Vec{Len: len(bits)}
	for _, c := range bits {
		w.Bits = w.Bits*2 + uint64(c-'0')
	}
	return w
}

// first is a vector's first bits.
func first(w api.Vec, n int) api.Vec {
	return api.Vec{Len: n, Bits: w.Bits >> (w.Len - n)}
}

// ref is a peer whose ID is its key's number and 10 more, so that one is not taken for the other.
func ref(n uint64, bits string) api.Ref {
	return api.Ref{ID: int(n) + 10, Key: at(n), Vec: v(bits)}
}

// low and high are the ends of a height.
func low(height int) api.Ref {
	return api.Ref{ID: 0, Key: lowest, Vec: api.Vec{Len: height}}
}

func high(height int) api.Ref {
	return api.Ref{ID: 1, Key: highest, Vec: api.Vec{Len: height}}
}

// wrongKeys are such as may not be.
func wrongKeys() []api.Key {
	return []api.Key{{}, {N: 5}, {Rank: api.RLow, N: 1}, {Rank: api.RLow, N: top}, {Rank: api.RHigh, N: 1}, {Rank: api.RHigh, N: top}, {Rank: 4}, {Rank: 4, N: 7}, {Rank: -1}, {Rank: math.MaxInt, N: 2}, {Rank: math.MinInt}}
}

// wrongVecs are such as may not be.
func wrongVecs() []api.Vec {
	return []api.Vec{{Bits: 1}, {Len: 1, Bits: 2}, {Len: 3, Bits: 8}, {Len: 32, Bits: 1 << 32}, {Len: 32, Bits: top}, {Len: 33}, {Len: 33, Bits: 1}, {Len: 64}, {Len: -1}, {Len: -1, Bits: 1}, {Len: math.MaxInt}, {Len: math.MinInt}}
}

// plain are settings for the keys from 5 to 20, in a height, from the head.
func plain(height int) api.ScanConf {
	return api.ScanConf{Height: height, Start: low(height), Low: 5, High: 20}
}

// begin is a scan that New makes.
func begin(t *testing.T, c api.ScanConf) *Scan {
	t.Helper()
	m, e := New(c)
	if e != api.OK || m == nil {
		t.Fatalf("New(%v) = %v, %d", c, m, e)
	}
	return m
}

// same tells whether two steps are alike in all; a value that is empty is none, and so are items.
func same(a, b api.Step) bool {
	for _, x := range []*api.Step{&a, &b} {
		l := make([]api.Item, len(x.Result.Items))
		for i, item := range x.Result.Items {
			l[i] = api.Item{Key: item.Key, Value: append([]byte{}, item.Value...)}
		}
		x.Result.Items = l
	}
	return reflect.DeepEqual(a, b)
}

// reads is the step of a QRead of a list.
func reads(to api.Ref, w api.Vec) api.Step {
	return api.Step{Kind: api.SAsk, To: to, Ask: api.Ask{Kind: api.QRead, W: w}}
}

// gets is the step of a QGet.
func gets(to api.Ref) api.Step {
	return api.Step{Kind: api.SAsk, To: to, Ask: api.Ask{Kind: api.QGet}}
}

// waits, over and tells are the other steps.
func waits() api.Step { return api.Step{Kind: api.SWait} }

func over(e api.Errno) api.Step {
	return api.Step{Kind: api.SDone, Result: api.Result{E: e}}
}

func tells(l ...api.Item) api.Step {
	return api.Step{Kind: api.SDone, Result: api.Result{Items: l}}
}

// item is one of a key and a value.
func item(k uint64, value string) api.Item {
	return api.Item{Key: k, Value: []byte(value)}
}

// The answers.
func onRight(r api.Ref) api.Answer {
	return api.Answer{Kind: api.AOK, Right: r}
}

func onLeft(r api.Ref) api.Answer {
	return api.Answer{Kind: api.AOK, Left: r}
}

func has(value string, right api.Ref) api.Answer {
	return api.Answer{Kind: api.AOK, Left: ref(2, ""), Right: right, Value: []byte(value)}
}

// goes is the answer of one that is marked.
func goes(right api.Ref) api.Answer {
	return api.Answer{Kind: api.AOK, Marked: true, Right: right, Value: []byte("marked")}
}

func will(r api.Ref) api.Answer {
	return api.Answer{Kind: api.ADead, Right: r}
}

func kind(k api.AnswerKind) api.Answer {
	return api.Answer{Kind: k}
}

var no, gone, dead = kind(api.ANo), kind(api.AGone), kind(api.ADead)

// filled is an answer of a kind with all that an answer can have.
func filled(k api.AnswerKind) api.Answer {
	return api.Answer{Kind: k, Marked: true, Left: ref(2, ""), Right: ref(90, ""), Value: []byte("abc")}
}

// answers are those of all kinds, and of none, but some; without anything, and with all.
func answers(but ...api.AnswerKind) []api.Answer {
	var l []api.Answer
	left := map[api.AnswerKind]int{}
	for _, k := range but {
		left[k]++
	}
	for _, k := range []api.AnswerKind{0, api.AOK, api.AGone, api.ADead, api.ANo, 5, -1, math.MaxInt, math.MinInt} {
		if left[k] == 0 {
			l = append(l, kind(k), filled(k))
		}
	}
	return l
}

// wants asks a scan for its step, twice.
func wants(t *testing.T, m *Scan, want api.Step) {
	t.Helper()
	for range 2 {
		if x := m.Next(); !same(x, want) {
			t.Fatalf("wants %v; not %v", x, want)
		}
	}
}

// tried holds how often it sought again.
func tried(t *testing.T, m *Scan, want int) {
	t.Helper()
	if n := m.Tries(); n != want {
		t.Fatalf("it sought again %d times; not %d", n, want)
	}
}

// row is what a scan must want, and what it is told then; where it waits, that is a tick.
type row struct {
	want api.Step
	a    api.Answer
}

// tick is that of a wait.
var tick = row{want: waits()}

// rows are some, one behind the other, in new memory.
func rows(l ...[]row) []row {
	var all []row
	for _, r := range l {
		all = append(all, r...)
	}
	return all
}

// play plays rows.
func play(t *testing.T, m *Scan, l ...row) {
	t.Helper()
	for i, r := range l {
		for range 2 {
			if x := m.Next(); !same(x, r.want) {
				t.Fatalf("row %d: wants %v; not %v", i, x, r.want)
			}
		}
		if r.want.Kind == api.SWait {
			m.Wake()
		} else {
			m.Tell(r.a)
		}
	}
}

// played is a scan that has played rows.
func played(t *testing.T, c api.ScanConf, l ...[]row) *Scan {
	t.Helper()
	m := begin(t, c)
	play(t, m, rows(l...)...)
	return m
}

// sought are the rows of a search from the head, which ends between two: who is to the left is the head, or stands right of it in the list of no bits.
func sought(height int, left, right api.Ref) []row {
	var l []row
	h := low(height)
	for n := height; n > 0; n-- {
		l = append(l, row{reads(h, api.Vec{Len: n}), onRight(high(height))})
	}
	if left == h {
		return append(l, row{reads(h, v("")), onRight(right)})
	}
	return append(l, row{reads(h, v("")), onRight(left)}, row{reads(left, v("")), onRight(right)})
}

// toWait are the rows up to a wait, and the tick: nothing is gotten.
func toWait(height int) []row {
	x := ref(7, strings.Repeat("1", height))
	return append(sought(height, low(height), x), row{gets(x), no}, tick)
}

// often are rows, so many times.
func often(n int, l []row) []row {
	var all []row
	for range n {
		all = append(all, l...)
	}
	return all
}

// P18.1: settings that may be, any Low and High among them: it reads Start, or, if Low is above High, is over.
func TestNew(t *testing.T) {
	var l []api.ScanConf
	for _, height := range []int{0, 1, 3, 31, 32} {
		l = append(l, api.ScanConf{Height: height, Start: low(height)}, api.ScanConf{Height: height, Start: high(height)})
	}
	// It may begin with anybody, in the range and beside it. IDs are not asked for.
	for _, start := range []api.Ref{ref(4, "01"), ref(5, "10"), ref(6, "11"), ref(0, "00"), {ID: -1, Key: at(top), Vec: v("11")}, {ID: math.MaxInt, Key: lowest, Vec: v("11")}, {ID: math.MinInt, Key: highest, Vec: v("01")}} {
		l = append(l, api.ScanConf{Height: 2, Start: start})
	}
	l = append(l, api.ScanConf{Height: 32, Start: api.Ref{ID: 2, Key: at(1), Vec: api.Vec{Len: 32, Bits: 1<<32 - 1}}})
	edges := []uint64{0, 1, 5, 6, 1 << 63, top - 1, top}
	for _, c := range l {
		for _, c.Low = range edges {
			for _, c.High = range edges {
				m := begin(t, c)
				if tried(t, m, 0); c.Low > c.High {
					wants(t, m, tells())
				} else {
					wants(t, m, reads(c.Start, c.Start.Vec))
				}
			}
		}
	}
}

// wrong are settings that may not be, each by one of their parts.
func wrong() []api.ScanConf {
	var l []api.ScanConf
	put := func(change func(c *api.ScanConf)) {
		for _, k := range []uint64{0, 4, 20, top} {
			c := plain(3)
			c.High = k
			change(&c)
			l = append(l, c)
		}
	}
	for _, height := range []int{-1, 33, 64, math.MinInt, math.MaxInt} {
		put(func(c *api.ScanConf) { c.Height = height })
		put(func(c *api.ScanConf) { c.Height, c.Start.Vec.Len = height, height })
	}
	for _, height := range []int{0, 2, 4, 32} {
		// Of one that may be, and the start is of another one.
		put(func(c *api.ScanConf) { c.Height = height })
		put(func(c *api.ScanConf) { c.Start.Vec.Len = height })
	}
	for _, w := range wrongVecs() {
		put(func(c *api.ScanConf) { c.Start = api.Ref{ID: 4, Key: at(3), Vec: w} })
		put(func(c *api.ScanConf) { c.Height, c.Start.Vec = w.Len, w })
	}
	for _, k := range wrongKeys() {
		put(func(c *api.ScanConf) { c.Start.Key = k })
	}
	return append(l, api.ScanConf{}, api.ScanConf{Height: -1})
}

// P18.1: settings that may not be; Low above High among them, for that is asked later.
func TestNewWrong(t *testing.T) {
	for _, c := range wrong() {
		if m, e := New(c); e != api.ErrScan || m != nil {
			t.Errorf("New(%v) = %v, %d", c, m, e)
		}
	}
	if api.ErrScan != 180 {
		t.Error(api.ErrScan)
	}
}

// P18.1 and rule 3: a Scan that is nil, or that New did not make, tells zero values, whatever it is told.
func TestNotMade(t *testing.T) {
	for _, m := range []*Scan{nil, {}, new(Scan)} {
		for _, a := range answers() {
			m.Tell(a)
			wants(t, m, api.Step{})
			m.Wake()
			wants(t, m, api.Step{})
			tried(t, m, 0)
		}
	}
}

// P18.1, P18.3: the example of the chapter.
func TestExample(t *testing.T) {
	three, five, eight := ref(3, ""), ref(5, ""), ref(8, "")
	m := played(t, api.ScanConf{Start: low(0), Low: 4, High: 8}, []row{
		{reads(low(0), v("")), onRight(three)}, {reads(three, v("")), onRight(five)},
		{gets(five), has("a", eight)}, {gets(eight), has("b", high(0))},
	})
	wants(t, m, tells(item(5, "a"), item(8, "b")))
	tried(t, m, 0)
}

// P18.1: of each height it goes down all lists, once.
func TestHeights(t *testing.T) {
	all := strings.Repeat("0110", 8)
	for height := range api.MaxVec + 1 {
		x, y := ref(5, all[:height]), ref(9, all[32-height:])
		m := played(t, plain(height), sought(height, low(height), x), []row{{gets(x), has("abc", y)}, {gets(y), has("", high(height))}})
		wants(t, m, tells(item(5, "abc"), item(9, "")))
	}
}

// everywhere are scans at each place at which one can be.
func everywhere(t *testing.T) map[string]*Scan {
	t.Helper()
	c := plain(2)
	h, end, p, x, y, z := low(2), high(2), ref(3, "01"), ref(5, "10"), ref(7, "11"), ref(9, "11")
	with := func(m *Scan, l ...row) *Scan {
		play(t, m, l...)
		return m
	}
	told := func(m *Scan, l ...api.Answer) *Scan {
		for _, a := range l {
			m.Tell(a)
		}
		return m
	}
	hand := func() *Scan { return played(t, c, sought(2, p, x)) }
	next := func() *Scan { return told(hand(), has("v", y)) }
	busy := told(begin(t, c), slices.Repeat([]api.Answer{no}, api.MaxTries+1)...)
	last := func(l ...row) *Scan { return with(played(t, c, often(api.MaxTries, toWait(2))), l...) }
	full := func(a api.Answer) *Scan {
		c := plain(0)
		c.High = top
		m := played(t, c, sought(0, low(0), ref(5, "")))
		for n := range uint64(api.MaxRange) {
			play(t, m, row{gets(ref(5+n, "")), has("v", ref(6+n, ""))})
		}
		m.Tell(a)
		return m
	}
	return map[string]*Scan{
		"search": begin(t, c), "search on": played(t, c, sought(2, p, x)[:3]), "search again": told(begin(t, c), gone),
		"search behind the dead": told(hand(), will(y)), "search anew": told(next(), has("w", y)),
		"hand": hand(), "hand from the head": played(t, c, sought(2, h, x)), "hand next": next(), "hand behind a marked one": told(hand(), goes(z)),
		"hand behind the dead": with(hand(), row{gets(x), will(y)}, row{reads(p, v("")), onRight(x)}),
		"wait":                 told(hand(), no), "wait next": told(next(), will(z)), "wait full": full(gone),
		"wait last": last(rows(sought(2, h, x), []row{{gets(x), kind(0)}})...),
		"OK":        told(hand(), has("v", end)), "OK empty": played(t, c, sought(2, p, end)), "OK at once": begin(t, api.ScanConf{Start: low(0), Low: 7, High: 6}),
		"OK none": told(hand(), goes(end)), "OK two": told(next(), has("w", ref(21, ""))), "OK full": full(goes(high(0))),
		"ErrBusy": busy, "ErrBusy by tries": with(last(sought(2, h, x)...), row{gets(x), no}, tick),
		"ErrBusy next": told(with(last(sought(2, h, x)...), row{gets(x), has("v", y)}), has("w", y)),
		"ErrLarge":     full(has("v", high(0))),
	}
}

// P18.2, P18.3: a tick is nothing, but where it waits: there it seeks again, if it may.
func TestWake(t *testing.T) {
	waited := 0
	for name, m := range everywhere(t) {
		before, tries := m.Next(), m.Tries()
		if strings.HasPrefix(name, "wait") {
			wants(t, m, waits())
			waited++
			tries++
			switch name {
			case "wait full":
				before = reads(low(0), v(""))
			case "wait last":
				before, tries = over(api.ErrBusy), api.MaxTries
			default:
				before = reads(low(2), v("00"))
			}
		} else if before.Kind == api.SWait {
			t.Fatalf("%s waits", name)
		}
		for range 3 {
			m.Wake()
			wants(t, m, before)
			tried(t, m, tries)
		}
	}
	if waited != 4 {
		t.Error(waited)
	}
}

// P18.2: an answer is nothing, while it waits, and behind the end.
func TestTellNobody(t *testing.T) {
	nobody := 0
	for name, m := range everywhere(t) {
		before, tries := m.Next(), m.Tries()
		if before.Kind == api.SAsk {
			continue
		}
		nobody++
		for _, a := range answers() {
			m.Tell(a)
			wants(t, m, before)
			tried(t, m, tries)
		}
		if before.Kind == api.SDone {
			m.Wake()
			wants(t, m, before)
			continue
		}
		// What it is told behind the tick counts again.
		m.Wake()
		if name == "wait" || name == "wait next" {
			m.Tell(onRight(high(2)))
			wants(t, m, reads(low(2), v("0")))
		}
	}
	if nobody != 14 {
		t.Error(nobody)
	}
}

// P18.1: each end's step has its result alone: E, and, with OK, the items.
func TestEnds(t *testing.T) {
	ends := 0
	all := everywhere(t)
	var full []api.Item
	for n := range uint64(api.MaxRange) {
		full = append(full, item(5+n, "v"))
	}
	for name, want := range map[string]api.Step{
		"OK": tells(item(5, "v")), "OK empty": tells(), "OK at once": tells(), "OK none": tells(), "OK two": tells(item(5, "v"), item(7, "w")), "OK full": tells(full...),
		"ErrBusy": over(api.ErrBusy), "ErrBusy by tries": over(api.ErrBusy), "ErrBusy next": over(api.ErrBusy), "ErrLarge": over(api.ErrLarge),
	} {
		wants(t, all[name], want)
		ends++
	}
	for name, m := range all {
		if is := strings.HasPrefix(name, "OK") || strings.HasPrefix(name, "Err"); is != (m.Next().Kind == api.SDone) {
			t.Errorf("%s: %v", name, m.Next())
		}
	}
	if ends != 10 || api.ErrLarge != 102 || api.ErrBusy != 121 {
		t.Error(ends, api.ErrLarge, api.ErrBusy)
	}
}

// P18.1: Next and Tries change nothing: asked any number of times, they tell the same, and what comes behind is as if they were not asked.
func TestNextAgain(t *testing.T) {
	for name := range everywhere(t) {
		for _, a := range []api.Answer{kind(api.AOK), no, gone, dead, goes(ref(12, "")), has("abc", ref(11, "")), onRight(high(2)), onRight(ref(7, "11")), will(ref(8, "10")), onLeft(ref(3, "10"))} {
			m, other := everywhere(t)[name], everywhere(t)[name]
			for range 5 {
				m.Next()
				m.Tries()
			}
			for range 5 {
				m.Tell(a)
				other.Tell(a)
				wants(t, m, m.Next())
				m.Wake()
				other.Wake()
				m.Next()
				m.Tries()
			}
			if x, y := m.Next(), other.Next(); !same(x, y) || m.Tries() != other.Tries() {
				t.Errorf("%s: %v, %v", name, x, y)
			}
		}
	}
}

// Rule 4: nothing is shared with what was handed in, or with what was handed out, or with another scan.
func TestApart(t *testing.T) {
	c, p, x, y := plain(2), ref(3, "01"), ref(5, "10"), ref(9, "11")
	was := c
	m, other := begin(t, c), begin(t, c)
	c.Height, c.Start, c.Low, c.High = 1, ref(1, "0"), 7, 7
	l := append(sought(2, p, x), row{gets(x), has("abc", y)}, row{gets(y), no}, tick)
	l = append(l, sought(2, p, y)...)
	l = append(l, row{gets(y), has("de", high(2))})
	for _, r := range l {
		wants(t, m, r.want)
		s := m.Next()
		s.Kind, s.To, s.Ask, s.Result = api.SWait, high(2), api.Ask{}, api.Result{E: api.ErrDead}
		if r.want.Kind == api.SWait {
			m.Wake()
			continue
		}
		a := r.a
		a.Value = append([]byte{}, r.a.Value...)
		m.Tell(a)
		if string(a.Value) != string(r.a.Value) || a.Left != r.a.Left || a.Right != r.a.Right || a.Kind != r.a.Kind {
			t.Errorf("it changed an answer: %v", a)
		}
		for i := range a.Value {
			a.Value[i] = 'x'
		}
		a.Left, a.Right = ref(1, "10"), ref(4, "10")
	}
	want := tells(item(5, "abc"), item(9, "de"))
	wants(t, m, want)
	s := m.Next()
	s.Result.Items[0].Value[0], s.Result.Items[1], s.Result.E = 'x', api.Item{}, api.ErrDead
	s.Result.Items = append(s.Result.Items[:1], item(7, "f"))
	wants(t, m, want)
	s = m.Next()
	if m.Next().Result.Items[1].Value[1] = 'y'; !same(s, want) {
		t.Error("two answers share a value")
	}
	// What one scan was told another one does not know.
	wants(t, other, reads(was.Start, was.Start.Vec))
	play(t, other, l...)
	wants(t, other, want)
}
