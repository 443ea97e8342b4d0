package graph

import (
	"fmt"
	"math"
	"slices"
	"strings"
	"testing"

	"leapfrog/api"
)

const top = math.MaxUint64

// The keys at both ends.
var (
	lowest  = api.Key{Rank: api.RLow}
	highest = api.Key{Rank: api.RHigh}
)

func at(n uint64) api.Key { return api.Key{Rank: api.RAt, N: n} }

// v is the vector of bits as a text; of no bits that is empty.
func v(bits string) api.Vec {
	w := api.Vec{Len: len(bits)}
	for _, c := range bits {
		w.Bits = w.Bits*2 + uint64(c-'0')
	}
	return w
}

// bits is a vector's text, written otherwise than package vec does.
func bits(w api.Vec) string {
	if w.Len == 0 {
		return ""
	}
	return fmt.Sprintf("%0*b", w.Len, w.Bits)
}

// ref is a member with an ID, a key and bits.
func ref(id int, n uint64, bits string) api.Ref {
	return api.Ref{ID: id, Key: at(n), Vec: v(bits)}
}

// head and tail are the ends of a height.
func head(height int) api.Ref {
	return api.Ref{ID: 0, Key: lowest, Vec: api.Vec{Len: height}}
}

func tail(height int) api.Ref {
	return api.Ref{ID: 1, Key: highest, Vec: api.Vec{Len: height}}
}

// example are those of the chapter: a, c, b.
func example() []api.Ref {
	return []api.Ref{ref(2, 3, "0"), ref(4, 9, "0"), ref(3, 5, "1")}
}

// wide are members of height 3, in no order of IDs or keys.
func wide() []api.Ref {
	return []api.Ref{
		ref(9, 50, "010"), ref(2, 70, "111"), ref(1023, 10, "000"), ref(7, 20, "100"),
		ref(3, top, "010"), ref(12, 0, "110"), ref(5, 60, "011"), ref(8, 30, "010"),
	}
}

// draw makes numbers that look like chance, the same each time.
type draw uint64

func (d *draw) below(n int) int {
	*d = *d*6364136223846793005 + 1442695040888963407
	return int(uint64(*d)>>33) % n
}

// drawn are so many members of a height, with IDs, keys and vectors in no order; few lets many share their first bits.
func drawn(d *draw, height, n int, few bool) []api.Ref {
	var l []api.Ref
	id, k := 2, uint64(d.below(3))
	for range n {
		w := api.Vec{Len: height}
		for i := range height {
			bit := uint64(d.below(2))
			if few && i < height-2 {
				bit = 1
			}
			w.Bits = w.Bits*2 + bit
		}
		l = append(l, api.Ref{ID: id, Key: at(k), Vec: w})
		id += 1 + d.below(3)
		k += 1 + uint64(d.below(3))
	}
	for i := range l {
		j := d.below(len(l))
		l[i].ID, l[j].ID = l[j].ID, l[i].ID
		j = d.below(len(l))
		l[i], l[j] = l[j], l[i]
	}
	return l
}

// sample is members of a height.
type sample struct {
	height int
	l      []api.Ref
}

// samples are graphs, small ones and greater ones.
func samples() []sample {
	l := []sample{
		{0, nil}, {1, nil}, {32, nil}, {1, example()}, {3, wide()},
		{0, []api.Ref{ref(2, 0, "")}}, {2, []api.Ref{ref(1023, top, "10")}},
		{32, []api.Ref{ref(5, 5, strings.Repeat("1", 32)), ref(6, 6, strings.Repeat("1", 31)+"0"), ref(4, 7, strings.Repeat("0", 32))}},
	}
	d := draw(1)
	for _, height := range []int{0, 1, 2, 3, 4, 8, 32} {
		for _, n := range []int{1, 2, 3, 5, 9, 20} {
			l = append(l, sample{height, drawn(&d, height, n, false)}, sample{height, drawn(&d, height, n, true)})
		}
	}
	return l
}

// many are members of the height of 32, as many as there may be.
func many() []api.Ref {
	d := draw(7)
	var l []api.Ref
	for id := 2; id < 1024; id++ {
		w := api.Vec{Len: 32, Bits: uint64(d.below(1<<16))<<16 | uint64(d.below(1<<16))}
		l = append(l, api.Ref{ID: id, Key: at(uint64(id*7919) % 10007), Vec: w})
	}
	return l
}

// vectors are lists of a height: all of at most three bits, and all to which a member belongs.
func (s sample) vectors() []api.Vec {
	var l []api.Vec
	for n := range min(s.height, 3) + 1 {
		for b := range uint64(1) << n {
			l = append(l, api.Vec{Len: n, Bits: b})
		}
	}
	for _, m := range s.l {
		for n := 4; n <= s.height; n++ {
			l = append(l, v(bits(m.Vec)[:n]))
		}
	}
	return l
}

// below is the order of keys, asked otherwise than package key does.
func below(x, y api.Key) bool {
	return x.Rank < y.Rank || x.Rank == y.Rank && x.N < y.N
}

// first are the first bits of a vector that has so many.
func first(w api.Vec, n int) api.Vec {
	return api.Vec{Len: n, Bits: w.Bits / (1 << (w.Len - n))}
}

// begins is asked otherwise than package vec does.
func begins(w, with api.Vec) bool {
	return with.Len <= w.Len && first(w, with.Len) == with
}

// row is a list by definition, ends and all: the least that is above the last one, again and again.
func (s sample) row(w api.Vec) []api.Ref {
	row := []api.Ref{head(s.height)}
	for {
		next := tail(s.height)
		for _, m := range s.l {
			if begins(m.Vec, w) && below(row[len(row)-1].Key, m.Key) && below(m.Key, next.Key) {
				next = m
			}
		}
		row = append(row, next)
		if next.ID == 1 {
			return row
		}
	}
}

// wrongVecs are such as may not be.
func wrongVecs() []api.Vec {
	return []api.Vec{{Len: -1}, {Len: 33}, {Len: 0, Bits: 1}, {Len: 1, Bits: 2}, {Len: 2, Bits: 4}, {Len: 32, Bits: 1 << 32}, {Len: 64}, {Len: math.MinInt}, {Len: math.MaxInt, Bits: top}}
}

// wrong are samples whose members make no graph, by what is wrong with them.
func wrong() map[string]sample {
	with := func(r api.Ref) sample { return sample{1, append(example(), r)} }
	all := map[string]sample{
		"height -1":          {-1, nil},
		"height 33":          {33, nil},
		"least height":       {math.MinInt, nil},
		"greatest height":    {math.MaxInt, nil},
		"height 1 less":      {0, example()},
		"height 1 more":      {2, example()},
		"height -1, members": {-1, example()},
		"height 33, members": {33, []api.Ref{{ID: 2, Key: at(1), Vec: api.Vec{Len: 33}}}},
		"ID 0":               with(ref(0, 1, "0")),
		"ID 1":               with(ref(1, 1, "0")),
		"ID -1":              with(ref(-1, 1, "0")),
		"ID 1024":            with(ref(1024, 1, "0")),
		"ID 2^32":            with(ref(1<<32, 1, "0")),
		"least ID":           with(ref(math.MinInt, 1, "0")),
		"greatest ID":        with(ref(math.MaxInt, 1, "0")),
		"one ID twice":       with(ref(3, 1, "0")),
		"one key twice":      with(ref(5, 5, "0")),
		"one ref twice":      with(ref(2, 3, "0")),
		"one bit less":       with(ref(5, 1, "")),
		"one bit more":       with(ref(5, 1, "00")),
		"the zero ref":       with(api.Ref{}),
		"the head":           with(head(1)),
		"the tail":           with(tail(1)),
		"one of all wrong":   {1, []api.Ref{ref(1024, 1, "0")}},
		"a wrong first one":  {1, append([]api.Ref{ref(1, 1, "0")}, example()...)},
		"one too many":       {32, append(many(), ref(2, 20000, strings.Repeat("0", 32)))},
		"one too many, 1024": {32, append(many(), ref(1024, 20000, strings.Repeat("0", 32)))},
	}
	for _, k := range []api.Key{{}, lowest, highest, {Rank: api.RLow, N: 1}, {Rank: api.RHigh, N: 1}, {Rank: 4, N: 1}, {Rank: -1, N: 1}, {Rank: 0, N: 1}, {Rank: math.MaxInt}} {
		all[fmt.Sprint("key ", k)] = with(api.Ref{ID: 5, Key: k, Vec: v("0")})
	}
	for _, w := range wrongVecs() {
		all[fmt.Sprint("vector ", w)] = with(api.Ref{ID: 5, Key: at(1), Vec: w})
		all[fmt.Sprint("height of vector ", w)] = sample{w.Len, []api.Ref{{ID: 5, Key: at(1), Vec: w}}}
	}
	return all
}

// P11.1 to P11.4, ahead of them ErrGraph: members that make no graph; of all calls it is the first error.
func TestNoGraph(t *testing.T) {
	for name, s := range wrong() {
		if e := Check(s.height, s.l...); e != 110 {
			t.Errorf("%s: Check: %d", name, e)
		}
		for _, w := range append(wrongVecs(), v(""), v("0"), v("00")) {
			if l, e := Members(s.height, w, s.l...); len(l) != 0 || e != 110 {
				t.Errorf("%s: Members(%v) = %v, %d", name, w, l, e)
			}
			for _, id := range []int{0, 1, 2, 77, -1} {
				if a, b, e := Beside(s.height, w, id, s.l...); a != (api.Ref{}) || b != (api.Ref{}) || e != 110 {
					t.Errorf("%s: Beside(%v, %d) = %v, %v, %d", name, w, id, a, b, e)
				}
			}
		}
		if l, e := Lists(s.height, s.l...); len(l) != 0 || e != 110 {
			t.Errorf("%s: Lists = %v, %d", name, l, e)
		}
		for _, id := range []int{0, 1, 2, 77, -1} {
			for _, k := range []api.Key{at(5), lowest, highest, {}} {
				if w, a, b, e := Way(s.height, id, k, s.l...); len(w) != 0 || a != (api.Ref{}) || b != (api.Ref{}) || e != 110 {
					t.Errorf("%s: Way(%d, %v) = %v, %v, %v, %d", name, id, k, w, a, b, e)
				}
			}
		}
		if l, e := Records(s.height, s.l...); len(l) != 0 || e != 110 {
			t.Errorf("%s: Records = %v, %d", name, l, e)
		}
	}
}

// Members that make a graph, at the limits too.
func TestCheck(t *testing.T) {
	for _, s := range samples() {
		if e := Check(s.height, s.l...); e != 0 {
			t.Errorf("Check(%d, %v): %d", s.height, s.l, e)
		}
	}
	for height := range 33 {
		if e := Check(height); e != 0 {
			t.Errorf("Check(%d): %d", height, e)
		}
		full := api.Ref{ID: 2, Key: at(0), Vec: api.Vec{Len: height, Bits: 1<<height - 1}}
		if e := Check(height, full); e != 0 {
			t.Errorf("Check(%d, %v): %d", height, full, e)
		}
	}
	if e := Check(1, append(example(), ref(1023, top, "1"), ref(5, 0, "1"))...); e != 0 {
		t.Errorf("the greatest ID and key: %d", e)
	}
	if e := Check(1, example()...); e != 0 {
		t.Errorf("the example: %d", e)
	}
	if l := many(); len(l) != 1022 || Check(32, l...) != 0 {
		t.Errorf("%d members: %d", len(l), Check(32, l...))
	}
}

// P11.1: the list's members, by their keys.
func TestMembers(t *testing.T) {
	for _, s := range samples() {
		for _, w := range s.vectors() {
			row := s.row(w)
			want := row[1 : len(row)-1]
			if l, e := Members(s.height, w, s.l...); !slices.Equal(l, want) || e != 0 {
				t.Errorf("Members(%d, %q, %v) = %v, %d; not %v", s.height, bits(w), s.l, l, e, want)
			}
		}
	}
}

// P11.1: some lists, written out.
func TestMembersOfSome(t *testing.T) {
	for w, want := range map[string][]int{
		"": {12, 1023, 7, 8, 9, 5, 2, 3}, "0": {1023, 8, 9, 5, 3}, "1": {12, 7, 2},
		"00": {1023}, "01": {8, 9, 5, 3}, "10": {7}, "11": {12, 2},
		"010": {8, 9, 3}, "011": {5}, "001": nil, "101": nil, "111": {2},
	} {
		l, e := Members(3, v(w), wide()...)
		var ids []int
		for _, m := range l {
			ids = append(ids, m.ID)
		}
		if !slices.Equal(ids, want) || e != 0 {
			t.Errorf("Members(%q): %v, %d; not %v", w, ids, e, want)
		}
	}
	if l, e := Members(0, v("")); len(l) != 0 || e != 0 {
		t.Errorf("of no members: %v, %d", l, e)
	}
	if l, e := Members(32, v(strings.Repeat("01", 16))); len(l) != 0 || e != 0 {
		t.Errorf("of no members, a long vector: %v, %d", l, e)
	}
}

// P11.1, P11.2: a vector that may not be, or that has more bits than the height.
func TestWrongVec(t *testing.T) {
	for _, s := range samples() {
		l := wrongVecs()
		for n := s.height + 1; n <= 33; n++ {
			l = append(l, api.Vec{Len: n}, api.Vec{Len: n, Bits: 1})
		}
		for _, w := range l {
			if m, e := Members(s.height, w, s.l...); len(m) != 0 || e != 10 {
				t.Errorf("Members(%d, %v) = %v, %d", s.height, w, m, e)
			}
			for _, id := range []int{0, 1, 2, 1023, 1024, -1} {
				if a, b, e := Beside(s.height, w, id, s.l...); a != (api.Ref{}) || b != (api.Ref{}) || e != 10 {
					t.Errorf("Beside(%d, %v, %d) = %v, %v, %d", s.height, w, id, a, b, e)
				}
			}
		}
	}
}

// P11.1: all lists that have members, in their vectors' order, which is that of their texts.
func TestLists(t *testing.T) {
	for _, s := range samples() {
		var texts []string
		for _, m := range s.l {
			for n := range s.height + 1 {
				texts = append(texts, bits(m.Vec)[:n])
			}
		}
		slices.Sort(texts)
		texts = slices.Compact(texts)
		l, e := Lists(s.height, s.l...)
		if len(l) != len(texts) || e != 0 {
			t.Fatalf("Lists(%d, %v): %d lists, %d; not %d", s.height, s.l, len(l), e, len(texts))
		}
		for i, x := range l {
			row := s.row(v(texts[i]))
			if x.W != v(texts[i]) || !slices.Equal(x.Members, row[1:len(row)-1]) {
				t.Errorf("list %d of %d, %v: %v; not %q, %v", i, s.height, s.l, x, texts[i], row)
			}
		}
	}
}

// P11.1: the lists of the example, one by one.
func TestListsOfSome(t *testing.T) {
	a, b, c := ref(2, 3, "0"), ref(3, 5, "1"), ref(4, 9, "0")
	want := []api.List{{W: v(""), Members: []api.Ref{a, b, c}}, {W: v("0"), Members: []api.Ref{a, c}}, {W: v("1"), Members: []api.Ref{b}}}
	l, e := Lists(1, c, a, b)
	if fmt.Sprint(l) != fmt.Sprint(want) || e != 0 {
		t.Errorf("Lists = %v, %d", l, e)
	}
	for _, height := range []int{0, 1, 32} {
		if l, e := Lists(height); len(l) != 0 || e != 0 {
			t.Errorf("Lists(%d) = %v, %d", height, l, e)
		}
	}
	var texts []string
	l, _ = Lists(3, wide()...)
	for _, x := range l {
		texts = append(texts, bits(x.W))
	}
	if got := strings.Join(texts, " "); got != " 0 00 000 01 010 011 1 10 100 11 110 111" {
		t.Errorf("Lists: %s", got)
	}
}

// P11.2: those beside each one of each list, the ends among them; of one that is not of it, ErrMember.
func TestBeside(t *testing.T) {
	for _, s := range samples() {
		for _, w := range s.vectors() {
			row := s.row(w)
			in := map[int]int{}
			for i, r := range row {
				in[r.ID] = i
			}
			for _, id := range []int{-1, 0, 1, 2, 3, 4, 5, 6, 7, 8, 9, 10, 11, 12, 20, 30, 40, 1022, 1023, 1024, 1 << 32, math.MinInt, math.MaxInt} {
				left, right, want := api.Ref{}, api.Ref{}, api.ErrMember
				if i, is := in[id]; is {
					want = api.OK
					if id != 0 {
						left = row[i-1]
					}
					if id != 1 {
						right = row[i+1]
					}
				}
				if a, b, e := Beside(s.height, w, id, s.l...); a != left || b != right || e != want {
					t.Errorf("Beside(%d, %q, %d, %v) = %v, %v, %d; not %v, %v, %d", s.height, bits(w), id, s.l, a, b, e, left, right, want)
				}
			}
		}
	}
}

// P11.2: some that stand beside, written out.
func TestBesideOfSome(t *testing.T) {
	none := api.Ref{}
	a, b, c := ref(2, 3, "0"), ref(3, 5, "1"), ref(4, 9, "0")
	for _, x := range []struct {
		w           string
		id          int
		left, right api.Ref
		e           api.Errno
	}{
		{"", 0, none, a, 0}, {"", 2, head(1), b, 0}, {"", 3, a, c, 0}, {"", 4, b, tail(1), 0}, {"", 1, c, none, 0},
		{"0", 0, none, a, 0}, {"0", 2, head(1), c, 0}, {"0", 4, a, tail(1), 0}, {"0", 1, c, none, 0}, {"0", 3, none, none, 111},
		{"1", 0, none, b, 0}, {"1", 3, head(1), tail(1), 0}, {"1", 1, b, none, 0}, {"1", 2, none, none, 111}, {"1", 4, none, none, 111},
		{"", 5, none, none, 111}, {"", -1, none, none, 111}, {"", 1024, none, none, 111},
	} {
		if l, r, e := Beside(1, v(x.w), x.id, example()...); l != x.left || r != x.right || e != x.e {
			t.Errorf("Beside(%q, %d) = %v, %v, %d", x.w, x.id, l, r, e)
		}
	}
	for _, w := range []string{"", "0", "11"} {
		if l, r, e := Beside(2, v(w), 0); l != none || r != tail(2) || e != 0 {
			t.Errorf("right of the head, alone: %v, %v, %d", l, r, e)
		}
		if l, r, e := Beside(2, v(w), 1); l != head(2) || r != none || e != 0 {
			t.Errorf("left of the tail, alone: %v, %v, %d", l, r, e)
		}
	}
}
