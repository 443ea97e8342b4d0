package seek

import (
	"fmt"
	"math"
	"reflect"
	"strings"
	"testing"

	"leapfrog/api"
)

const top = math.MaxUint64

// The keys at both ends.
var (
	lowest  = api.Key{Rank: api.RLow}
	highest = api.Key{Rank: api.RHigh}
)

func at(n uint64) api.Key { return api.Key{Rank: api.RAt, N: n} }

// v is the vector of bits as a text; of no bits that is empty.
func v(bits string) api.Vec {
	w := api.Vec{Len: len(bits)}
	for _, c := range bits {
		w.Bits = w.Bits*2 + uint64(c-'0')
	}
	return w
}

// bits is a vector's text, written otherwise than package vec does.
func bits(w api.Vec) string {
	if w.Len == 0 {
		return ""
	}
	return fmt.Sprintf("%0*b", w.Len, w.Bits)
}

// ref is a peer whose ID is its key's number and 10 more, so that one is not taken for the other.
func ref(n uint64, bits string) api.Ref {
	return api.Ref{ID: int(n) + 10, Key: at(n), Vec: v(bits)}
}

// head and tail are the ends of a height.
func head(height int) api.Ref {
	return api.Ref{ID: 0, Key: lowest, Vec: api.Vec{Len: height}}
}

func tail(height int) api.Ref {
	return api.Ref{ID: 1, Key: highest, Vec: api.Vec{Len: height}}
}

// wrongKeys are such as may not be.
func wrongKeys() []api.Key {
	return []api.Key{{}, {N: 5}, {Rank: api.RLow, N: 1}, {Rank: api.RHigh, N: 1}, {Rank: api.RHigh, N: top}, {Rank: 4}, {Rank: 4, N: 7}, {Rank: -1}, {Rank: math.MaxInt, N: 2}, {Rank: math.MinInt}}
}

// wrongVecs are such as may not be.
func wrongVecs() []api.Vec {
	return []api.Vec{{Bits: 1}, {Len: 1, Bits: 2}, {Len: 3, Bits: 8}, {Len: 32, Bits: 1 << 32}, {Len: 32, Bits: top}, {Len: 33}, {Len: 33, Bits: 1}, {Len: 64}, {Len: -1}, {Len: -1, Bits: 1}, {Len: math.MaxInt}, {Len: math.MinInt}}
}

// The answers.
func ok(left, right api.Ref) api.Answer {
	return api.Answer{Kind: api.AOK, Left: left, Right: right}
}

func dead(left, right api.Ref) api.Answer {
	return api.Answer{Kind: api.ADead, Left: left, Right: right}
}

// others are answers that tell nothing to a search, though they have both sides.
func others(left, right api.Ref) []api.Answer {
	var l []api.Answer
	for _, k := range []api.AnswerKind{0, api.AGone, api.ANo, 5, -1, math.MaxInt, math.MinInt} {
		l = append(l, api.Answer{Kind: k}, api.Answer{Kind: k, Left: left, Right: right})
	}
	return l
}

// begin is a search that New makes.
func begin(t *testing.T, start api.Ref, target api.Key) *Seek {
	t.Helper()
	s, e := New(api.SeekConf{Height: start.Vec.Len, Start: start, Target: target})
	if e != api.OK || s == nil {
		t.Fatalf("New of %v, %v: %v, %d", start, target, s, e)
	}
	return s
}

// same tells whether two steps are alike in all.
func same(a, b api.Step) bool {
	return reflect.DeepEqual(a, b)
}

// reads is the step that asks one of a list.
func reads(to api.Ref, w string) api.Step {
	return api.Step{Kind: api.SAsk, To: to, Ask: api.Ask{Kind: api.QRead, W: v(w)}}
}

// ends is the step behind the end.
func ends(left, right api.Ref, found bool) api.Step {
	return api.Step{Kind: api.SDone, Result: api.Result{Left: left, Right: right, Found: found}}
}

// busy is the step of one that began again too often.
func busy() api.Step {
	return api.Step{Kind: api.SDone, Result: api.Result{E: api.ErrBusy}}
}

// wants asks a search for its step, twice, and how often it began again.
func wants(t *testing.T, s *Seek, want api.Step, tries int) {
	t.Helper()
	for range 2 {
		if x := s.Next(); !same(x, want) {
			t.Fatalf("wants %v; not %v", x, want)
		}
		s.Wake()
	}
	if n := s.Tries(); n != tries {
		t.Fatalf("began again %d times; not %d", n, tries)
	}
}

// row is whom a search must ask, of which list, and what is answered.
type row struct {
	to api.Ref
	w  string
	a  api.Answer
}

// tell plays rows.
func tell(t *testing.T, s *Seek, rows ...row) {
	t.Helper()
	for i, r := range rows {
		if x := s.Next(); !same(x, reads(r.to, r.w)) {
			t.Fatalf("row %d: wants %v; not %v", i, x, reads(r.to, r.w))
		}
		s.Tell(r.a)
	}
}

// P12.1: settings that may be; the search stands on its start, in the list of all of its bits.
func TestNew(t *testing.T) {
	for _, start := range []api.Ref{
		head(0), head(1), head(32), tail(0), tail(5), tail(32), ref(5, ""), ref(0, "101"), ref(top, "1"),
		{ID: -1, Key: at(5), Vec: v("01")}, {ID: math.MaxInt, Key: at(5), Vec: v("1")}, {ID: 7, Key: lowest, Vec: v("11")},
		{ID: 3, Key: at(1), Vec: api.Vec{Len: 32, Bits: 1<<32 - 1}}, {ID: 3, Key: at(1), Vec: api.Vec{Len: 31, Bits: 1<<31 - 1}},
	} {
		for _, target := range []api.Key{at(0), at(5), at(top), highest} {
			wants(t, begin(t, start, target), reads(start, bits(start.Vec)), 0)
		}
	}
}

// P12.1: settings that may not be.
func TestNewWrong(t *testing.T) {
	var l []api.SeekConf
	for _, height := range []int{-1, 33, 64, math.MinInt, math.MaxInt} {
		// A start as that height would have it, and one that may be.
		l = append(l, api.SeekConf{Height: height, Start: api.Ref{ID: 2, Key: at(5), Vec: api.Vec{Len: height}}, Target: at(9)},
			api.SeekConf{Height: height, Start: head(0), Target: at(9)}, api.SeekConf{Height: height, Start: head(32), Target: at(9)})
	}
	for _, height := range []int{0, 1, 2, 31, 32} {
		l = append(l, api.SeekConf{Height: height, Start: head(height + 1), Target: at(9)}, api.SeekConf{Height: height, Start: head(height - 1), Target: at(9)},
			api.SeekConf{Height: height, Start: head(height), Target: lowest})
		for _, k := range wrongKeys() {
			l = append(l, api.SeekConf{Height: height, Start: head(height), Target: k},
				api.SeekConf{Height: height, Start: api.Ref{ID: 2, Key: k, Vec: api.Vec{Len: height}}, Target: at(9)})
		}
	}
	for _, w := range wrongVecs() {
		l = append(l, api.SeekConf{Height: w.Len, Start: api.Ref{ID: 2, Key: at(5), Vec: w}, Target: at(9)})
	}
	l = append(l, api.SeekConf{})
	for _, c := range l {
		if s, e := New(c); e != api.ErrSeek || s != nil {
			t.Errorf("New(%v) = %v, %d", c, s, e)
		}
	}
}

// P12.1 and rule 3: a search that is nil, or that New did not make, tells zero values, whatever it is told.
func TestNotMade(t *testing.T) {
	for _, s := range []*Seek{nil, {}} {
		for _, a := range append(others(head(1), ref(5, "1")), ok(head(1), ref(5, "1")), dead(head(1), ref(5, "1"))) {
			s.Tell(a)
			s.Dead(a)
			s.Wake()
			if x := s.Next(); !same(x, api.Step{}) || s.Tries() != 0 {
				t.Errorf("%v, %d", x, s.Tries())
			}
		}
	}
}

// P12.1: the example of the chapter.
func TestExample(t *testing.T) {
	five, nine := ref(5, ""), ref(9, "")
	s := begin(t, head(0), at(7))
	tell(t, s, row{head(0), "", ok(api.Ref{}, five)}, row{five, "", ok(head(0), nine)})
	wants(t, s, ends(five, nine, false), 0)
}

// P12.1: a tick changes nothing, wherever the search is at.
func TestWake(t *testing.T) {
	five, nine := ref(5, "0"), ref(9, "0")
	s := begin(t, nine, at(7))
	for _, r := range []struct {
		want api.Step
		a    api.Answer
	}{
		{reads(nine, "0"), ok(five, tail(1))},
		{reads(five, "0"), ok(head(1), nine)},
		{reads(five, ""), ok(head(1), nine)},
	} {
		for range 3 {
			s.Wake()
		}
		wants(t, s, r.want, 0)
		s.Tell(r.a)
	}
	s.Wake()
	wants(t, s, ends(five, nine, false), 0)
}

// Rule 4: nothing is shared with what was handed in, or with what was handed out.
func TestApart(t *testing.T) {
	five, nine := ref(5, "0"), ref(9, "0")
	c := api.SeekConf{Height: 1, Start: head(1), Target: at(7)}
	s, _ := New(c)
	other, _ := New(c)
	c.Start, c.Target = tail(1), at(1)
	a := ok(head(1), five)
	a.Value = []byte("abc")
	s.Tell(a)
	a.Value[0], a.Right = 'x', nine
	wants(t, s, reads(five, "0"), 0)
	d := dead(head(1), nine)
	d.Value = []byte("abc")
	s.Tell(d)
	d.Value[0], d.Right = 'x', tail(1)
	tell(t, s, row{head(1), "0", ok(api.Ref{}, five)}, row{head(1), "", ok(api.Ref{}, nine)})
	x := s.Next()
	x.Kind, x.Result.Left, x.Result.Right, x.Result.E = api.SWait, tail(1), five, api.ErrBusy
	wants(t, s, ends(head(1), nine, false), 1)
	// What one search was told another one does not know.
	tell(t, other, row{head(1), "0", ok(api.Ref{}, five)})
	wants(t, other, reads(five, "0"), 0)
	if string(a.Value) != "xbc" || string(d.Value) != "xbc" {
		t.Errorf("%q, %q", a.Value, d.Value)
	}
}

// P12.1: a search of the greatest height goes down bit by bit, the last one first.
func TestDownAll(t *testing.T) {
	all := strings.Repeat("10", 16)
	start := ref(5, all)
	s := begin(t, start, at(9))
	for n := 32; n >= 0; n-- {
		tell(t, s, row{start, all[:n], ok(head(32), tail(32))})
	}
	wants(t, s, ends(start, tail(32), false), 0)
}
