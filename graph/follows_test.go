package graph

import (
	"slices"
	"testing"

	"leapfrog/api"
	"leapfrog/link"
)

// parted: P11.5, of one list.
func parted(t *testing.T, s sample, w api.Vec) {
	t.Helper()
	all, _ := Members(s.height, w, s.l...)
	if w.Len == s.height {
		return
	}
	zero, e := Members(s.height, v(bits(w)+"0"), s.l...)
	one, f := Members(s.height, v(bits(w)+"1"), s.l...)
	if e != 0 || f != 0 || len(zero)+len(one) != len(all) {
		t.Errorf("%q of %v: %v, parted into %v, %v; %d, %d", bits(w), s.l, all, zero, one, e, f)
	}
	for _, m := range all {
		if slices.Contains(zero, m) == slices.Contains(one, m) {
			t.Errorf("%v of list %q is in none of its two, or in both", m, bits(w))
		}
	}
}

// P11.5: a list's members are those of its two lists of a bit more, each in one of them.
func TestParted(t *testing.T) {
	for _, s := range samples() {
		for _, w := range s.vectors() {
			parted(t, s, w)
		}
	}
}

// P11.6: who stands to the right of one has that one to the left, and the other way round.
func TestInverse(t *testing.T) {
	for _, s := range samples() {
		for _, w := range s.vectors() {
			all, _ := Members(s.height, w, s.l...)
			for _, m := range append(all, head(s.height), tail(s.height)) {
				left, right, _ := Beside(s.height, w, m.ID, s.l...)
				if m.ID != 1 {
					if back, _, e := Beside(s.height, w, right.ID, s.l...); back != m || e != 0 {
						t.Errorf("%q of %v: right of %v is %v, left of that %v, %d", bits(w), s.l, m, right, back, e)
					}
				}
				if m.ID != 0 {
					if _, back, e := Beside(s.height, w, left.ID, s.l...); back != m || e != 0 {
						t.Errorf("%q of %v: left of %v is %v, right of that %v, %d", bits(w), s.l, m, left, back, e)
					}
				}
			}
		}
	}
}

// P11.6: the same of records.
func TestInverseRecords(t *testing.T) {
	type place struct {
		id int
		w  api.Vec
	}
	for _, s := range append(samples(), sample{32, many()}) {
		states, _ := Records(s.height, s.l...)
		recs := map[place]api.RecState{}
		for _, x := range states {
			for _, r := range x.Recs {
				recs[place{x.Me.ID, r.W}] = r
			}
		}
		for _, x := range states {
			for _, r := range x.Recs {
				if x.Me.ID != 1 && recs[place{r.Right.ID, r.W}].Left != x.Me {
					t.Errorf("%q: right of %v is %v, left of that %v", bits(r.W), x.Me, r.Right, recs[place{r.Right.ID, r.W}].Left)
				}
				if x.Me.ID != 0 && recs[place{r.Left.ID, r.W}].Right != x.Me {
					t.Errorf("%q: left of %v is %v, right of that %v", bits(r.W), x.Me, r.Left, recs[place{r.Left.ID, r.W}].Right)
				}
			}
		}
	}
}

// between are the greatest below a key, and the least that is not.
func (s sample) between(k api.Key) (api.Ref, api.Ref) {
	left, right := api.Ref{}, tail(s.height)
	for _, m := range append([]api.Ref{head(s.height), tail(s.height)}, s.l...) {
		if below(m.Key, k) && !below(m.Key, left.Key) {
			left = m
		}
		if !below(m.Key, k) && below(m.Key, right.Key) {
			right = m
		}
	}
	return left, right
}

// P11.7: a search from anybody ends between the same two.
func TestFound(t *testing.T) {
	for _, s := range samples() {
		for _, k := range append(s.targets(), lowest) {
			left, right := s.between(k)
			for _, from := range s.row(v("")) {
				if _, a, b, e := Way(s.height, from.ID, k, s.l...); a != left || b != right || e != 0 {
					t.Errorf("from %d to %v among %v: %v, %v, %d; not %v, %v", from.ID, k, s.l, a, b, e, left, right)
				}
			}
		}
	}
}

// P11.3, P11.7: among as many members as there may be, too.
func TestFoundOfMany(t *testing.T) {
	s := sample{32, many()}
	for _, k := range []api.Key{at(0), at(1), s.l[500].Key, at(5000), at(10006), at(20000), highest, lowest} {
		left, right := s.between(k)
		for _, id := range []int{0, 1, 2, 500, 1023} {
			w, a, b, e := Way(32, id, k, s.l...)
			if a != left || b != right || e != 0 {
				t.Errorf("from %d to %v: %v, %v, %d; not %v, %v", id, k, a, b, e, left, right)
			}
			// Searches leap: of a thousand they come to few.
			if len(w) > 60 {
				t.Errorf("from %d to %v: %d hops", id, k, len(w))
			}
		}
	}
}

// P11.1: of as many members as there may be, each list is parted, and all are there.
func TestListsOfMany(t *testing.T) {
	l, e := Lists(32, many()...)
	if e != 0 || len(l) == 0 || len(l[0].Members) != 1022 {
		t.Fatalf("%d lists, %d", len(l), e)
	}
	all := map[api.Vec]int{}
	for i, x := range l {
		all[x.W] = len(x.Members)
		if i > 0 && bits(l[i-1].W) >= bits(x.W) {
			t.Errorf("%q is not ahead of %q", bits(l[i-1].W), bits(x.W))
		}
		for j, m := range x.Members {
			if bits(m.Vec)[:x.W.Len] != bits(x.W) || j > 0 && !below(x.Members[j-1].Key, m.Key) {
				t.Errorf("%v in list %q", m, bits(x.W))
			}
		}
	}
	for w, n := range all {
		if w.Len < 32 && all[v(bits(w)+"0")]+all[v(bits(w)+"1")] != n {
			t.Errorf("list %q is not parted", bits(w))
		}
	}
}

// recordsOf are the records of all, by whose they are and of which list; an end's that Records does not tell are as at first.
func (s sample) recordsOf(t *testing.T) func(one api.Ref, w api.Vec) api.RecState {
	t.Helper()
	states, e := Records(s.height, s.l...)
	if e != 0 {
		t.Fatalf("Records(%d, %v): %d", s.height, s.l, e)
	}
	return func(one api.Ref, w api.Vec) api.RecState {
		for _, x := range states {
			i := slices.IndexFunc(x.Recs, func(r api.RecState) bool { return r.W == w })
			if x.Me == one && i >= 0 {
				return x.Recs[i]
			}
		}
		switch one.ID {
		case 0:
			return api.RecState{W: w, Right: tail(s.height)}
		case 1:
			return api.RecState{W: w, Left: head(s.height)}
		}
		return api.RecState{}
	}
}

// near: P11.8, of one member m that is there, and then not.
func near(t *testing.T, s sample, m api.Ref) {
	t.Helper()
	less := sample{s.height, slices.DeleteFunc(slices.Clone(s.l), func(r api.Ref) bool { return r == m })}
	with, without := s.recordsOf(t), less.recordsOf(t)
	for _, w := range s.vectors() {
		own := with(m, w)
		its := w.Len <= s.height && bits(m.Vec)[:w.Len] == bits(w)
		for _, one := range append([]api.Ref{head(s.height), tail(s.height)}, less.l...) {
			want := without(one, w)
			if its && one == own.Left {
				want.Right = m
			}
			if its && one == own.Right {
				want.Left = m
			}
			if got := with(one, w); !link.Same(got, want) {
				t.Errorf("with %v among %v, %v has in %q %v; not %v", m, less.l, one, bits(w), got, want)
			}
		}
		if old := without(m, w); !link.Same(old, api.RecState{}) {
			t.Errorf("without %v it has %v", m, old)
		}
	}
}

// P11.8: a member more, or less, changes only what is beside it, in its own lists.
func TestNear(t *testing.T) {
	for _, s := range samples() {
		if len(s.l) > 9 {
			continue
		}
		for _, m := range s.l {
			near(t, s, m)
		}
	}
}

// anything makes members of bytes, right ones and wrong ones.
func anything(b []byte) sample {
	s := sample{height: 2}
	if len(b) > 0 {
		s.height = int(int8(b[0])) % 35
	}
	for row := range slices.Chunk(b, 4) {
		if len(row) < 4 {
			break
		}
		r := api.Ref{ID: int(int8(row[0])), Key: at(uint64(int8(row[1]))), Vec: api.Vec{Len: s.height, Bits: uint64(row[2])}}
		switch row[3] % 32 {
		case 0:
			r.ID *= 64
		case 1:
			r.Key.Rank = api.Rank(row[3] / 32)
		case 2:
			r.Vec.Len = int(int8(row[3]))
		}
		s.l = append(s.l, r)
	}
	return s
}

// right tells whether members make a graph, asked one by one and two by two.
func (s sample) right() bool {
	is := s.height >= 0 && s.height <= 32 && len(s.l) <= 1022
	for i, m := range s.l {
		is = is && m.ID >= 2 && m.ID <= 1023 && m.Key.Rank == 2 && m.Vec.Len == s.height && m.Vec.Bits < 1<<s.height
		for _, x := range s.l[:i] {
			is = is && x.ID != m.ID && x.Key != m.Key
		}
	}
	return is
}

// whole holds all calls against each other, and against the words, of any members.
func whole(t *testing.T, s sample) {
	t.Helper()
	want := api.ErrGraph
	if s.right() {
		want = api.OK
	}
	if e := Check(s.height, s.l...); e != want {
		t.Fatalf("Check(%d, %v): %d", s.height, s.l, e)
	}
	_, e := Lists(s.height, s.l...)
	states, f := Records(s.height, s.l...)
	if e != want || f != want {
		t.Fatalf("of height %d, %v: %d, %d", s.height, s.l, e, f)
	}
	for _, x := range states {
		if recs := s.records(x.Me); !slices.EqualFunc(x.Recs, recs, link.Same) {
			t.Fatalf("records of %v among %v: %v; not %v", x.Me, s.l, x.Recs, recs)
		}
		for _, k := range s.targets() {
			hops, left, right := s.way(x.Me, k)
			if w, a, b, e := Way(s.height, x.Me.ID, k, s.l...); !slices.Equal(w, hops) || a != left || b != right || e != 0 {
				t.Fatalf("from %v to %v among %v: %v, %v, %v, %d", x.Me, k, s.l, w, a, b, e)
			}
		}
	}
}

// P11.1 to P11.4: any members, right ones and wrong ones.
func TestAnything(t *testing.T) {
	d := draw(11)
	for range 3000 {
		b := make([]byte, d.below(40))
		for i := range b {
			b[i] = byte(d.below(256))
			if i%4 == 0 || i%4 == 2 {
				b[i] %= 64
			}
		}
		if len(b) > 0 {
			b[0] = byte(4 + d.below(5))
		}
		whole(t, anything(b))
	}
}

func FuzzAnything(f *testing.F) {
	f.Add([]byte{2, 3, 0, 3, 4, 9, 1, 3, 3, 5, 2, 3})
	f.Add([]byte{8, 1, 2, 3, 9, 4, 200, 3, 10, 5, 77, 3})
	f.Add([]byte{255})
	f.Fuzz(func(t *testing.T, b []byte) {
		whole(t, anything(b[:min(len(b), 60)]))
	})
}
