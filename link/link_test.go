package link

import (
	"math"
	"slices"
	"testing"

	"leapfrog/api"
	"leapfrog/vec"
)

func own(agent, op int) api.Owner { return api.Owner{Agent: agent, Op: op} }

// The owners of the smaller tests.
var (
	a = own(0, 1)
	b = own(1, 1)
	c = own(0, 2)
	d = own(1023, 1<<30)
)

// v is the vector of a text.
func v(s string) api.Vec {
	w, _, e := vec.Read(s)
	if e != api.OK {
		panic("no vector: " + s)
	}
	return w
}

// at is a peer of a number, with a vector of its own.
func at(n uint64) api.Ref {
	return api.Ref{ID: 2 + int(n%1000), Key: api.Key{Rank: api.RAt, N: n}, Vec: api.Vec{Len: 3, Bits: n % 8}}
}

// me is a peer of that number and vector.
func me(n uint64, s string) api.Ref {
	return api.Ref{ID: 7, Key: api.Key{Rank: api.RAt, N: n}, Vec: v(s)}
}

func head(s string) api.Ref { return api.Ref{ID: 0, Key: api.Key{Rank: api.RLow}, Vec: v(s)} }

func tail(s string) api.Ref { return api.Ref{ID: 1, Key: api.Key{Rank: api.RHigh}, Vec: v(s)} }

// keyed is a peer that has nothing but a key.
func keyed(rank api.Rank, n uint64) api.Ref { return api.Ref{Key: api.Key{Rank: rank, N: n}} }

func wrongOwners() []api.Owner {
	return []api.Owner{{}, own(-1, 1), own(1024, 1), own(0, 0), own(0, -1), own(1023, 1<<30+1), own(math.MinInt, math.MaxInt), own(1<<32, 1), own(0, 1<<32+1)}
}

func wrongKeys() []api.Key {
	return []api.Key{{}, {Rank: 0, N: 5}, {Rank: -1}, {Rank: 4}, {Rank: 4, N: 3}, {Rank: api.RLow, N: 1}, {Rank: api.RHigh, N: 1}, {Rank: api.RLow, N: math.MaxUint64}, {Rank: math.MaxInt, N: 9}, {Rank: math.MinInt, N: 9}}
}

func wrongVecs() []api.Vec {
	return []api.Vec{{Len: -1}, {Len: 33}, {Len: 0, Bits: 1}, {Len: 1, Bits: 2}, {Len: 2, Bits: 4}, {Len: 32, Bits: 1 << 32}, {Len: 64}, {Len: math.MinInt}, {Len: math.MaxInt, Bits: math.MaxUint64}}
}

// table is a new one of a peer that has records.
func table(t *testing.T, r api.Ref) *Links {
	t.Helper()
	l, e := New(r)
	if l == nil || e != api.OK {
		t.Fatalf("New(%v) = %v, %d", r, l, e)
	}
	return l
}

// puts holds that a record is put.
func puts(t *testing.T, l *Links, w string, left, right api.Ref, o api.Owner) {
	t.Helper()
	if e := l.Put(v(w), left, right, o); e != api.OK {
		t.Errorf("Put(%s, %v, %v, %v) = %d", w, left, right, o, e)
	}
}

// locks holds what Lock tells one that may ask.
func locks(t *testing.T, l *Links, w string, o api.Owner, want bool) {
	t.Helper()
	if is, e := l.Lock(v(w), o); is != want || e != api.OK {
		t.Errorf("Lock(%s, %v) = %v, %d; not %v", w, o, is, e, want)
	}
}

// frees holds to whom a lock goes, that its holder gives back; a zero owner is nobody.
func frees(t *testing.T, l *Links, w string, o, want api.Owner) {
	t.Helper()
	if next, is, e := l.Free(v(w), o); next != want || is != (want != api.Owner{}) || e != api.OK {
		t.Errorf("Free(%s, %v) = %v, %v, %d; not %v", w, o, next, is, e, want)
	}
}

// outs holds that it goes out of a list, and who waited.
func outs(t *testing.T, l *Links, w string, o api.Owner, want ...api.Owner) {
	t.Helper()
	if waited, e := l.Out(v(w), o); !slices.Equal(waited, want) || e != api.OK {
		t.Errorf("Out(%s, %v) = %v, %d; not %v", w, o, waited, e, want)
	}
	isNot(t, l, w)
}

// tells holds the number that a call answered.
func tells(t *testing.T, what string, e, want api.Errno) {
	t.Helper()
	if e != want {
		t.Errorf("%s is answered %d, not %d", what, e, want)
	}
}

// rec is the record of a list, whose first owner holds it while the others wait.
func rec(w string, left, right api.Ref, row ...api.Owner) api.RecState {
	s := api.RecState{W: v(w), Left: left, Right: right}
	if len(row) > 0 {
		s.Held, s.Owner, s.Waits = true, row[0], slices.Clone(row[1:])
	}
	return s
}

// alike is what Same is told to be, asked otherwise.
func alike(x, y api.RecState) bool {
	waits := len(x.Waits) == len(y.Waits)
	for i := 0; waits && i < len(x.Waits); i++ {
		waits = x.Waits[i] == y.Waits[i]
	}
	x.Waits, y.Waits = nil, nil
	type fields struct {
		w           api.Vec
		left, right api.Ref
		held        bool
		owner       api.Owner
	}
	return waits && fields{x.W, x.Left, x.Right, x.Held, x.Owner} == fields{y.W, y.Left, y.Right, y.Held, y.Owner}
}

// is holds how a record stands.
func is(t *testing.T, l *Links, want api.RecState) {
	t.Helper()
	if got, in := l.Get(want.W); !in || !alike(got, want) {
		t.Errorf("Get(%v) = %+v, %v; not %+v", want.W, got, in, want)
	}
}

// isNot holds that it is not in a list.
func isNot(t *testing.T, l *Links, w string) {
	t.Helper()
	noRecord(t, l, v(w))
}

func noRecord(t *testing.T, l *Links, w api.Vec) {
	t.Helper()
	if got, in := l.Get(w); in || !alike(got, api.RecState{}) {
		t.Errorf("Get(%v) = %+v, %v", w, got, in)
	}
}

// all holds all records, in order.
func all(t *testing.T, l *Links, want ...api.RecState) {
	t.Helper()
	if got := l.All(); !slices.EqualFunc(got, want, alike) {
		t.Errorf("All = %+v; not %+v", got, want)
	}
}

// P8.1: a peer and the ends, with any ID, at the limits of keys and vectors.
func TestNew(t *testing.T) {
	long := api.Vec{Len: 32, Bits: 1<<32 - 1}
	for _, id := range []int{0, 1, 2, 1023, 1024, -1, math.MinInt, math.MaxInt} {
		for _, k := range []api.Key{{Rank: api.RLow}, {Rank: api.RAt}, {Rank: api.RAt, N: math.MaxUint64}, {Rank: api.RHigh}} {
			for _, w := range []api.Vec{{}, {Len: 1}, {Len: 1, Bits: 1}, {Len: 32}, long} {
				l := table(t, api.Ref{ID: id, Key: k, Vec: w})
				all(t, l)
				if _, in := l.Get(w); in != (k.Rank != api.RAt) {
					t.Errorf("%v is in %v: %v", k, w, in)
				}
			}
		}
	}
}

// P8.1: a Key that may not be, a Vec that is not right, and both.
func TestNewWrong(t *testing.T) {
	no := func(r api.Ref) {
		t.Helper()
		if l, e := New(r); l != nil || e != 80 {
			t.Errorf("New(%v) = %v, %d", r, l, e)
		}
	}
	for _, k := range wrongKeys() {
		no(api.Ref{ID: 2, Key: k, Vec: v("10")})
		no(api.Ref{ID: 0, Key: k})
		for _, w := range wrongVecs() {
			no(api.Ref{ID: 2, Key: k, Vec: w})
		}
	}
	for _, w := range wrongVecs() {
		no(api.Ref{ID: 2, Key: api.Key{Rank: api.RAt, N: 5}, Vec: w})
		no(api.Ref{ID: 0, Key: api.Key{Rank: api.RLow}, Vec: w})
		no(api.Ref{ID: 1, Key: api.Key{Rank: api.RHigh}, Vec: w})
	}
}

// P8.1: the lists of a peer are the prefixes of its vector, and nothing else.
func TestMay(t *testing.T) {
	for vector, lists := range map[string]string{
		".":   " . ",
		"0":   " . 0 ",
		"1":   " . 1 ",
		"10":  " . 1 10 ",
		"011": " . 0 01 011 ",
	} {
		l := table(t, me(5, vector))
		for _, w := range vectors(4) {
			text, _ := vec.Text(w)
			if l.May(w) != contains(lists, text) {
				t.Errorf("May(%s) of %s = %v", text, vector, l.May(w))
			}
		}
		for _, w := range wrongVecs() {
			if l.May(w) {
				t.Errorf("May(%v) of %s", w, vector)
			}
		}
	}
}

// P8.1: an end's lists are all vectors that are not longer than its own, whatever its bits.
func TestMayEnd(t *testing.T) {
	for _, vector := range []string{".", "0", "1", "00", "10", "000", "101"} {
		for _, end := range []api.Ref{head(vector), tail(vector)} {
			l := table(t, end)
			for _, w := range vectors(4) {
				if l.May(w) != (w.Len <= len(vector) && vector != "." || w.Len == 0) {
					t.Errorf("May(%v) of %v = %v", w, end, l.May(w))
				}
			}
			for _, w := range wrongVecs() {
				if l.May(w) {
					t.Errorf("May(%v) of %v", w, end)
				}
				noRecord(t, l, w)
			}
		}
	}
}

// P8.1: at the greatest length.
func TestMayLong(t *testing.T) {
	long := api.Vec{Len: 32, Bits: 0xdeadbeef}
	for _, k := range []api.Key{{Rank: api.RAt, N: 5}, {Rank: api.RLow}, {Rank: api.RHigh}} {
		l := table(t, api.Ref{ID: 9, Key: k, Vec: long})
		for n := range 33 {
			w := api.Vec{Len: n, Bits: long.Bits >> (32 - n)}
			other := w
			other.Bits ^= 1
			if !l.May(w) || n > 0 && l.May(other) != (k.Rank != api.RAt) {
				t.Errorf("%v: May(%v) = %v, May(%v) = %v", k, w, l.May(w), other, l.May(other))
			}
		}
	}
}

// vectors are all that have at most so many bits, the short ones first.
func vectors(most int) []api.Vec {
	var l []api.Vec
	for n := range most + 1 {
		for bits := range uint64(1) << n {
			l = append(l, api.Vec{Len: n, Bits: bits})
		}
	}
	return l
}

// contains tells whether a word stands in a row of words with a blank on both sides of each.
func contains(row, word string) bool {
	for i := 0; i+len(word)+2 <= len(row); i++ {
		if row[i:i+len(word)+2] == " "+word+" " {
			return true
		}
	}
	return false
}

// P8.1: without records, with one, with many that were put in no order.
func TestGetAll(t *testing.T) {
	l := table(t, me(5, "1011"))
	all(t, l)
	for _, w := range vectors(5) {
		noRecord(t, l, w)
	}
	puts(t, l, "10", at(3), at(9), a)
	all(t, l, rec("10", at(3), at(9), a))
	is(t, l, rec("10", at(3), at(9), a))
	for _, w := range vectors(5) {
		if w != v("10") {
			noRecord(t, l, w)
		}
	}
	puts(t, l, "1011", head("1011"), tail("1011"), b)
	puts(t, l, ".", at(4), at(6), a)
	puts(t, l, "101", at(2), at(9), c)
	puts(t, l, "1", at(4), at(7), d)
	locks(t, l, "1", a, false)
	frees(t, l, "10", a, api.Owner{})
	want := []api.RecState{
		rec(".", at(4), at(6), a), rec("1", at(4), at(7), d, a), rec("10", at(3), at(9)),
		rec("101", at(2), at(9), c), rec("1011", head("1011"), tail("1011"), b),
	}
	all(t, l, want...)
	for _, r := range want {
		is(t, l, r)
	}
}

// firstOf is an end's record of a list, till it is changed.
func firstOf(end api.Ref, w string) api.RecState {
	s := api.RecState{W: v(w)}
	other := api.Ref{Vec: end.Vec}
	if end.Key.Rank == api.RLow {
		other.ID, other.Key.Rank = 1, api.RHigh
		s.Right = other
	} else {
		other.ID, other.Key.Rank = 0, api.RLow
		s.Left = other
	}
	return s
}

// P8.1: an end is in all its lists, and in no others; the other end beside it has its vector.
func TestFirstOnes(t *testing.T) {
	for _, end := range []api.Ref{head("00"), tail("00"), head("10"), tail("11"), head("."), tail(".")} {
		for _, id := range []int{end.ID, 5, -3} {
			end.ID = id
			l := table(t, end)
			for _, w := range vectors(3) {
				text, _ := vec.Text(w)
				if w.Len <= end.Vec.Len {
					is(t, l, firstOf(end, text))
				} else {
					noRecord(t, l, w)
				}
			}
			all(t, l)
		}
	}
}

// P8.1: of an end those are told that were changed; changed back, they are the first ones again.
func TestChangedBack(t *testing.T) {
	h := table(t, head("00"))
	first := tail("00")
	locks(t, h, "10", a, true)
	locks(t, h, ".", b, true)
	locks(t, h, "01", b, true)
	frees(t, h, "01", b, api.Owner{})
	locks(t, h, "0", c, true)
	all(t, h, rec(".", api.Ref{}, first, b), rec("0", api.Ref{}, first, c), rec("10", api.Ref{}, first, a))
	tells(t, "Right", h.Right(v("10"), at(9), a), 0)
	locks(t, h, "10", d, false)
	frees(t, h, ".", b, api.Owner{})
	all(t, h, rec("0", api.Ref{}, first, c), rec("10", api.Ref{}, at(9), a, d))
	frees(t, h, "10", a, d)
	frees(t, h, "10", d, api.Owner{})
	all(t, h, rec("0", api.Ref{}, first, c), rec("10", api.Ref{}, at(9)))
	is(t, h, rec("10", api.Ref{}, at(9)))
	locks(t, h, "10", d, true)
	tells(t, "Right", h.Right(v("10"), first, d), 0)
	all(t, h, rec("0", api.Ref{}, first, c), rec("10", api.Ref{}, first, d))
	frees(t, h, "10", d, api.Owner{})
	frees(t, h, "0", c, api.Owner{})
	all(t, h)
	is(t, h, rec("10", api.Ref{}, first))

	l := table(t, tail("00"))
	tells(t, "Left", l.Left(v("1"), at(9)), 0)
	tells(t, "Left", l.Left(v("0"), at(8)), 0)
	all(t, l, rec("0", at(8), api.Ref{}), rec("1", at(9), api.Ref{}))
	tells(t, "Left", l.Left(v("1"), head("00")), 0)
	all(t, l, rec("0", at(8), api.Ref{}))
	is(t, l, rec("1", head("00"), api.Ref{}))
	// Another head's, by one field alone, is not the first one.
	for _, r := range []api.Ref{{ID: 2, Key: head("00").Key, Vec: v("00")}, head("01"), keyed(api.RLow, 0)} {
		tells(t, "Left", l.Left(v("1"), r), 0)
		all(t, l, rec("0", at(8), api.Ref{}), rec("1", r, api.Ref{}))
	}
}

// An end keeps no records that are as at first, whatever was asked of them.
func TestFirstOnesKept(t *testing.T) {
	for _, end := range []api.Ref{head("000"), tail("000")} {
		l := table(t, end)
		for _, w := range vectors(3) {
			text, _ := vec.Text(w)
			locks(t, l, text, a, true)
			l.Get(w)
			l.Right(w, at(5), b)
			frees(t, l, text, a, api.Owner{})
			l.Lock(w, own(-1, 0))
			l.Free(w, b)
			l.Out(w, a)
			l.Left(w, api.Ref{})
		}
		if all(t, l); len(l.recs) != 0 {
			t.Errorf("%d records are kept", len(l.recs))
		}
	}
}

// P8.1: records that differ in one field alone, in each of its parts.
func TestSame(t *testing.T) {
	base := func() api.RecState { return rec("10", at(3), at(9), a, b, c) }
	if !Same(base(), base()) || !Same(api.RecState{}, api.RecState{}) {
		t.Error("a record is not the same as itself")
	}
	if !Same(api.RecState{Waits: []api.Owner{}}, api.RecState{}) || !Same(api.RecState{}, api.RecState{Waits: make([]api.Owner, 0, 3)}) {
		t.Error("nobody that waits is not the same as nobody")
	}
	for i, turn := range []func(r *api.RecState){
		func(r *api.RecState) { r.W.Len++ },
		func(r *api.RecState) { r.W.Bits++ },
		func(r *api.RecState) { r.Left.ID++ },
		func(r *api.RecState) { r.Left.Key.N++ },
		func(r *api.RecState) { r.Left.Key.Rank++ },
		func(r *api.RecState) { r.Left.Vec.Len++ },
		func(r *api.RecState) { r.Left.Vec.Bits++ },
		func(r *api.RecState) { r.Right.ID++ },
		func(r *api.RecState) { r.Right.Key.N++ },
		func(r *api.RecState) { r.Right.Key.Rank++ },
		func(r *api.RecState) { r.Right.Vec.Len++ },
		func(r *api.RecState) { r.Right.Vec.Bits++ },
		func(r *api.RecState) { r.Left, r.Right = r.Right, r.Left },
		func(r *api.RecState) { r.Held = false },
		func(r *api.RecState) { r.Owner.Agent++ },
		func(r *api.RecState) { r.Owner.Op++ },
		func(r *api.RecState) { r.Waits = nil },
		func(r *api.RecState) { r.Waits = r.Waits[:1] },
		func(r *api.RecState) { r.Waits = r.Waits[1:] },
		func(r *api.RecState) { r.Waits = append(r.Waits, d) },
		func(r *api.RecState) { r.Waits = append(r.Waits, api.Owner{}) },
		func(r *api.RecState) { r.Waits[0].Agent++ },
		func(r *api.RecState) { r.Waits[1].Op++ },
		func(r *api.RecState) { slices.Reverse(r.Waits) },
	} {
		other := base()
		turn(&other)
		if Same(base(), other) || Same(other, base()) || !Same(other, other) {
			t.Errorf("turn %d: %+v", i, other)
		}
	}
}

// P8.2: every list of its, with any that stand on their sides; the owner holds the lock, and nobody waits.
func TestPut(t *testing.T) {
	for _, n := range []uint64{1, 5, math.MaxUint64 - 1} {
		for _, left := range []api.Ref{at(n - 1), at(0), head("10"), head("."), keyed(api.RLow, 0), {ID: -9, Key: at(n - 1).Key, Vec: api.Vec{Len: 99, Bits: 7}}} {
			for _, right := range []api.Ref{at(n + 1), at(math.MaxUint64), tail("10"), keyed(api.RHigh, 0), {ID: 1 << 40, Key: at(n + 1).Key, Vec: api.Vec{Len: -1}}} {
				l := table(t, me(n, "10"))
				for _, w := range []string{"10", ".", "1"} {
					for _, o := range []api.Owner{a, d} {
						puts(t, l, w, left, right, o)
						is(t, l, rec(w, left, right, o))
						outs(t, l, w, o)
					}
				}
			}
		}
	}
}

// P8.2: into a list that is none of its, twice into one, of an end's, with sides that do not belong there, by wrong owners.
func TestPutRefused(t *testing.T) {
	l := table(t, me(5, "10"))
	puts(t, l, "1", at(3), at(9), a)
	frees(t, l, "1", a, api.Owner{})
	for _, w := range append(wrongVecs(), v("0"), v("11"), v("00"), v("100"), v("101")) {
		tells(t, "Put into none of its", l.Put(w, at(3), at(9), a), 80)
	}
	tells(t, "Put twice", l.Put(v("1"), at(3), at(9), a), 81)
	tells(t, "Put twice, with other sides", l.Put(v("1"), at(2), at(6), b), 81)
	left := []api.Ref{at(5), at(6), at(math.MaxUint64), tail("10"), {}, me(5, "10")}
	right := []api.Ref{at(5), at(4), at(0), head("10"), {}, me(5, "10")}
	for _, k := range wrongKeys() {
		left, right = append(left, api.Ref{Key: k}), append(right, api.Ref{Key: k})
	}
	for _, r := range left {
		tells(t, "Put with a wrong left one", l.Put(v("10"), r, at(9), a), 83)
	}
	for _, r := range right {
		tells(t, "Put with a wrong right one", l.Put(v("10"), at(3), r, a), 83)
	}
	tells(t, "Put with both wrong", l.Put(v("10"), at(9), at(3), a), 83)
	for _, o := range wrongOwners() {
		tells(t, "Put by a wrong owner", l.Put(v("10"), at(3), at(9), o), 70)
	}
	all(t, l, rec("1", at(3), at(9)))

	for _, end := range []api.Ref{head("10"), tail("10")} {
		l := table(t, end)
		for _, w := range append(vectors(3), wrongVecs()...) {
			tells(t, "Put of an end", l.Put(w, at(3), at(9), a), 80)
			tells(t, "Put of an end", l.Put(w, head("10"), tail("10"), a), 80)
		}
		all(t, l)
	}
}

// P8.2: at the least and the greatest number nothing but an end stands on one side.
func TestPutEdges(t *testing.T) {
	l := table(t, me(0, "."))
	tells(t, "Put with a left one", l.Put(v("."), at(0), at(1), a), 83)
	puts(t, l, ".", head("."), at(1), a)
	l = table(t, me(math.MaxUint64, "."))
	tells(t, "Put with a right one", l.Put(v("."), at(0), at(math.MaxUint64), a), 83)
	puts(t, l, ".", at(math.MaxUint64-1), tail("."), a)
}

// P8.2: with nobody and with some that wait; by another, by one that waits, by who held it; of a list that it is not in.
func TestOut(t *testing.T) {
	l := table(t, me(5, "10"))
	puts(t, l, "1", at(3), at(9), a)
	puts(t, l, ".", at(3), at(9), b)
	outs(t, l, "1", a)
	all(t, l, rec(".", at(3), at(9), b))
	no := func(w api.Vec, o api.Owner, want api.Errno) {
		t.Helper()
		if waited, e := l.Out(w, o); len(waited) != 0 || e != want {
			t.Errorf("Out(%v, %v) = %v, %d; not %d", w, o, waited, e, want)
		}
	}
	for _, w := range append(wrongVecs(), v("1"), v("10"), v("0"), v("101")) {
		no(w, a, 82)
	}
	for _, o := range []api.Owner{d, a, c} {
		locks(t, l, ".", o, false)
	}
	for _, o := range []api.Owner{d, a, c, own(9, 9), own(1, 2), own(2, 1)} {
		no(v("."), o, 71)
	}
	for _, o := range wrongOwners() {
		no(v("."), o, 70)
	}
	is(t, l, rec(".", at(3), at(9), b, d, a, c))
	frees(t, l, ".", b, d)
	no(v("."), b, 71)
	outs(t, l, ".", d, a, c)
	all(t, l)
	puts(t, l, ".", at(3), at(9), a)
	frees(t, l, ".", a, api.Owner{})
	no(v("."), a, 71)
	is(t, l, rec(".", at(3), at(9)))
}

// P8.2: as many as may wait.
func TestOutMany(t *testing.T) {
	l := table(t, me(5, "10"))
	puts(t, l, "10", at(3), at(9), own(7, 1000))
	var row []api.Owner
	for i := range 64 {
		row = append(row, own(i*7%10, 1+i*11%97))
		locks(t, l, "10", row[i], false)
	}
	if is, e := l.Lock(v("10"), own(8, 1000)); is || e != 3 {
		t.Errorf("Lock = %v, %d", is, e)
	}
	outs(t, l, "10", own(7, 1000), row...)
}

// P8.2: an end goes out of none of its lists, and is not in the others.
func TestOutEnd(t *testing.T) {
	for _, end := range []api.Ref{head("10"), tail("10")} {
		l := table(t, end)
		locks(t, l, "1", a, true)
		for _, w := range append(vectors(3), wrongVecs()...) {
			want := api.Errno(82)
			if l.May(w) {
				want = 80
			}
			for _, o := range append(wrongOwners(), a, b) {
				if waited, e := l.Out(w, o); len(waited) != 0 || e != want {
					t.Errorf("Out(%v, %v) = %v, %d", w, o, waited, e)
				}
			}
		}
		if got := l.All(); len(got) != 1 || got[0].Owner != a {
			t.Errorf("All = %v", got)
		}
	}
}

// P8.3: what belongs there stands there, whoever it is; Left whoever holds the lock.
func TestSides(t *testing.T) {
	l := table(t, me(5, "10"))
	puts(t, l, "1", at(3), at(9), a)
	for _, r := range []api.Ref{at(4), at(0), head("10"), at(3), {ID: -9, Key: at(1).Key, Vec: api.Vec{Len: 99}}} {
		tells(t, "Left", l.Left(v("1"), r), 0)
		is(t, l, rec("1", r, at(9), a))
	}
	tells(t, "Left", l.Left(v("1"), at(3)), 0)
	for _, r := range []api.Ref{at(6), at(math.MaxUint64), tail("10"), at(9), {ID: -9, Key: at(7).Key, Vec: api.Vec{Len: 99}}} {
		tells(t, "Right", l.Right(v("1"), r, a), 0)
		is(t, l, rec("1", at(3), r, a))
	}
	tells(t, "Right", l.Right(v("1"), at(9), a), 0)
	frees(t, l, "1", a, api.Owner{})
	tells(t, "Left of a record that nobody holds", l.Left(v("1"), at(2)), 0)
	all(t, l, rec("1", at(2), at(9)))
}

// P8.3: what does not belong there, by who does not hold the lock, in a list that it is not in.
func TestSidesRefused(t *testing.T) {
	l := table(t, me(5, "10"))
	puts(t, l, "1", at(3), at(9), a)
	locks(t, l, "1", b, false)
	left := []api.Ref{at(5), at(6), at(math.MaxUint64), tail("10"), {}}
	right := []api.Ref{at(5), at(4), at(0), head("10"), {}}
	for _, k := range wrongKeys() {
		left, right = append(left, api.Ref{Key: k}), append(right, api.Ref{Key: k})
	}
	for _, r := range left {
		tells(t, "Left", l.Left(v("1"), r), 83)
	}
	for _, r := range right {
		tells(t, "Right", l.Right(v("1"), r, a), 83)
	}
	for _, o := range []api.Owner{b, c, d} {
		tells(t, "Right", l.Right(v("1"), at(8), o), 71)
	}
	for _, o := range wrongOwners() {
		tells(t, "Right", l.Right(v("1"), at(8), o), 70)
	}
	for _, w := range append(wrongVecs(), v("."), v("10"), v("0"), v("101")) {
		tells(t, "Left", l.Left(w, at(3)), 82)
		tells(t, "Right", l.Right(w, at(9), a), 82)
	}
	all(t, l, rec("1", at(3), at(9), a, b))
	frees(t, l, "1", a, b)
	frees(t, l, "1", b, api.Owner{})
	for _, o := range []api.Owner{a, b} {
		tells(t, "Right of a record that nobody holds", l.Right(v("1"), at(8), o), 71)
	}
	all(t, l, rec("1", at(3), at(9)))
}

// P8.3: nothing belongs to the left of the head, or to the right of the tail; all else that may be is on their other sides.
func TestSidesOfEnds(t *testing.T) {
	h, l := table(t, head("10")), table(t, tail("10"))
	any := []api.Ref{{}, at(0), at(5), at(math.MaxUint64), head("10"), tail("10")}
	for _, w := range vectors(2) {
		text, _ := vec.Text(w)
		tells(t, "Right of the head, that is not held", h.Right(w, at(5), a), 71)
		locks(t, h, text, a, true)
		locks(t, l, text, a, true)
		for _, r := range any {
			tells(t, "Left of the head", h.Left(w, r), 83)
			tells(t, "Right of the tail", l.Right(w, r, a), 83)
		}
		for _, r := range any[1:4] {
			tells(t, "Right of the head", h.Right(w, r, a), 0)
			is(t, h, rec(text, api.Ref{}, r, a))
			tells(t, "Left of the tail", l.Left(w, r), 0)
			is(t, l, rec(text, r, api.Ref{}, a))
		}
		tells(t, "Right of the head", h.Right(w, head("10"), a), 83)
		tells(t, "Left of the tail", l.Left(w, tail("10")), 83)
		for _, k := range wrongKeys() {
			tells(t, "Right of the head", h.Right(w, api.Ref{Key: k}, a), 83)
			tells(t, "Left of the tail", l.Left(w, api.Ref{Key: k}), 83)
		}
		tells(t, "Right of the head", h.Right(w, tail("10"), a), 0)
		tells(t, "Left of the tail", l.Left(w, head("10")), 0)
	}
	for _, w := range append(wrongVecs(), v("100"), v("000")) {
		tells(t, "Right of the head", h.Right(w, at(5), a), 82)
		tells(t, "Left of the head", h.Left(w, at(5)), 82)
	}
}

// P8.4: in a list that it is not in, whoever asks.
func TestLockGone(t *testing.T) {
	peer, end := table(t, me(5, "10")), table(t, tail("10"))
	puts(t, peer, "1", at(3), at(9), a)
	gone := func(l *Links, w api.Vec) {
		t.Helper()
		for _, o := range append(wrongOwners(), a, b) {
			if is, e := l.Lock(w, o); is || e != 82 {
				t.Errorf("Lock(%v, %v) = %v, %d", w, o, is, e)
			}
			if next, is, e := l.Free(w, o); next != (api.Owner{}) || is || e != 82 {
				t.Errorf("Free(%v, %v) = %v, %v, %d", w, o, next, is, e)
			}
		}
	}
	for _, w := range append(wrongVecs(), v("100"), v("101"), v("000")) {
		gone(peer, w)
		gone(end, w)
	}
	for _, w := range []string{".", "10", "0", "11"} {
		gone(peer, v(w))
	}
	all(t, peer, rec("1", at(3), at(9), a))
	all(t, end)
}

// P8.4: what lock refuses is refused, and nothing changes.
func TestLockRefused(t *testing.T) {
	peer, end := table(t, me(5, "10")), table(t, head("10"))
	puts(t, peer, "1", at(3), at(9), a)
	locks(t, end, "1", a, true)
	for _, l := range []*Links{peer, end} {
		locks(t, l, "1", b, false)
		locks(t, l, "1", b, false)
		locks(t, l, "1", a, true)
		before := l.All()
		for _, o := range wrongOwners() {
			if is, e := l.Lock(v("1"), o); is || e != 70 {
				t.Errorf("Lock(%v) = %v, %d", o, is, e)
			}
			if next, is, e := l.Free(v("1"), o); next != (api.Owner{}) || is || e != 70 {
				t.Errorf("Free(%v) = %v, %v, %d", o, next, is, e)
			}
		}
		for _, o := range []api.Owner{b, c, d} {
			if next, is, e := l.Free(v("1"), o); next != (api.Owner{}) || is || e != 71 {
				t.Errorf("Free(%v) = %v, %v, %d", o, next, is, e)
			}
		}
		all(t, l, before...)
	}
	if _, _, e := end.Free(v("0"), a); e != 71 {
		t.Errorf("Free of a first one: %d", e)
	}
	if _, e := end.Lock(v("0"), api.Owner{}); e != 70 {
		t.Errorf("Lock of a first one: %d", e)
	}
	all(t, end, rec("1", api.Ref{}, tail("10"), a, b))
}

// Where more than one error is due, the first that the promise names is told.
func TestErrorsInOrder(t *testing.T) {
	l, end := table(t, me(5, "10")), table(t, head("10"))
	puts(t, l, "1", at(3), at(9), a)
	bad := own(0, 0)
	tells(t, "Put: no list of its, wrong sides, wrong owner", l.Put(v("0"), at(9), at(3), bad), 80)
	tells(t, "Put: an end, wrong sides, wrong owner", end.Put(v("1"), at(9), at(3), bad), 80)
	tells(t, "Put: in, wrong sides, wrong owner", l.Put(v("1"), at(9), at(3), bad), 81)
	tells(t, "Put: in, wrong owner", l.Put(v("1"), at(3), at(9), bad), 81)
	tells(t, "Put: wrong left side, wrong owner", l.Put(v("10"), at(9), at(9), bad), 83)
	tells(t, "Put: wrong right side, wrong owner", l.Put(v("10"), at(3), at(3), bad), 83)
	tells(t, "Right: not in, wrong owner, wrong side", l.Right(v("10"), at(3), bad), 82)
	tells(t, "Right: wrong owner, wrong side", l.Right(v("1"), at(3), bad), 70)
	tells(t, "Right: not held, wrong side", l.Right(v("1"), at(3), b), 71)
	tells(t, "Left: not in, wrong side", l.Left(v("10"), at(9)), 82)
	tells(t, "Right: an end, not in, wrong owner", end.Right(v("101"), at(3), bad), 82)
	tells(t, "Right: an end, wrong owner, wrong side", end.Right(v("1"), head("10"), bad), 70)
	tells(t, "Right: an end, not held, wrong side", end.Right(v("1"), head("10"), b), 71)
	out := func(what string, l *Links, w string, o api.Owner, want api.Errno) {
		t.Helper()
		_, e := l.Out(v(w), o)
		tells(t, what, e, want)
	}
	out("Out: not in, wrong owner", l, "10", bad, 82)
	out("Out: no list of an end's", end, "101", bad, 82)
	out("Out: an end, wrong owner", end, "1", bad, 80)
	out("Out: an end, not held", end, "1", b, 80)
	all(t, l, rec("1", at(3), at(9), a))
	all(t, end)
}

// A Links that is nil, and one that New did not make, whatever else is wrong.
func TestNotMade(t *testing.T) {
	for name, l := range map[string]*Links{"nil": nil, "not made": {}, "new": new(Links), "with a peer": {me: head("10")}} {
		for _, w := range append(wrongVecs(), v("."), v("1"), v("10")) {
			for _, o := range append(wrongOwners(), a) {
				tells(t, name+": Put", l.Put(w, at(3), at(9), o), 4)
				tells(t, name+": Right", l.Right(w, at(9), o), 4)
				if waited, e := l.Out(w, o); len(waited) != 0 || e != 4 {
					t.Errorf("%s: Out(%v, %v) = %v, %d", name, w, o, waited, e)
				}
				if is, e := l.Lock(w, o); is || e != 4 {
					t.Errorf("%s: Lock(%v, %v) = %v, %d", name, w, o, is, e)
				}
				if next, is, e := l.Free(w, o); next != (api.Owner{}) || is || e != 4 {
					t.Errorf("%s: Free(%v, %v) = %v, %v, %d", name, w, o, next, is, e)
				}
			}
			tells(t, name+": Left", l.Left(w, at(3)), 4)
			tells(t, name+": Left", l.Left(w, api.Ref{}), 4)
			if l.May(w) {
				t.Errorf("%s: May(%v)", name, w)
			}
			noRecord(t, l, w)
		}
		all(t, l)
	}
}

// The document's example.
func TestExample(t *testing.T) {
	l := table(t, me(5, "10"))
	puts(t, l, "1", head("10"), tail("10"), a)
	tells(t, "Right by b", l.Right(v("1"), at(9), b), api.ErrHeld)
	tells(t, "Right by a", l.Right(v("1"), at(9), a), api.OK)
	outs(t, l, "1", a)
}
