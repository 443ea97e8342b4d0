package graph

import (
	"fmt"
	"math"
	"slices"
	"testing"

	"leapfrog/api"
)

// wrongKeys are such as may not be.
func wrongKeys() []api.Key {
	return []api.Key{{}, {N: 5}, {Rank: api.RLow, N: 1}, {Rank: api.RHigh, N: 1}, {Rank: api.RHigh, N: top}, {Rank: 4}, {Rank: -1}, {Rank: math.MaxInt, N: 2}, {Rank: math.MinInt}}
}

// targets are keys that members have, and those beside them; RHigh too, but not RLow.
func (s sample) targets() []api.Key {
	l := []api.Key{highest, at(0), at(top), at(1 << 40)}
	for _, m := range s.l {
		l = append(l, m.Key)
		if m.Key.N > 0 {
			l = append(l, at(m.Key.N-1))
		}
		if m.Key.N < top {
			l = append(l, at(m.Key.N+1))
		}
	}
	return l
}

// next is who stands to the left of one in a list, or to the right: the nearest of all that are there.
func (s sample) next(w api.Vec, one api.Ref, left bool) api.Ref {
	near := tail(s.height)
	if left {
		near = head(s.height)
	}
	for _, m := range s.l {
		if begins(m.Vec, w) && (left && below(near.Key, m.Key) && below(m.Key, one.Key) || !left && below(one.Key, m.Key) && below(m.Key, near.Key)) {
			near = m
		}
	}
	return near
}

// way is a search by the words of the chapter, step by step.
func (s sample) way(from api.Ref, target api.Key) ([]api.Hop, api.Ref, api.Ref) {
	stands, level := from, s.height
	way := []api.Hop{{Level: level, At: from}}
	left := !below(from.Key, target)
	for over := false; !over; {
		beside := s.next(first(stands.Vec, level), stands, left)
		onto := left != below(beside.Key, target)
		over = level == 0 && !onto
		if onto || over && left {
			stands = beside
			way = append(way, api.Hop{Level: level, At: stands})
		} else {
			level--
		}
	}
	return way, stands, s.next(v(""), stands, false)
}

// P11.3: searches from each one, ends and all, at keys that members have and that none has.
func TestWay(t *testing.T) {
	for _, s := range samples() {
		for _, from := range s.row(v("")) {
			for _, k := range s.targets() {
				want, left, right := s.way(from, k)
				if w, a, b, e := Way(s.height, from.ID, k, s.l...); !slices.Equal(w, want) || a != left || b != right || e != 0 {
					t.Errorf("Way(%d, %d, %v, %v) = %v, %v, %v, %d; not %v, %v, %v", s.height, from.ID, k, s.l, w, a, b, e, want, left, right)
				}
			}
		}
	}
}

// P11.3: at RLow the way is its beginning alone, and ends ahead of the head.
func TestWayLow(t *testing.T) {
	for _, s := range samples() {
		for _, from := range s.row(v("")) {
			want := []api.Hop{{Level: s.height, At: from}}
			if w, a, b, e := Way(s.height, from.ID, lowest, s.l...); !slices.Equal(w, want) || a != (api.Ref{}) || b != head(s.height) || e != 0 {
				t.Errorf("Way(%d, %d, RLow, %v) = %v, %v, %v, %d", s.height, from.ID, s.l, w, a, b, e)
			}
		}
	}
}

// P11.3: ways written out: each one's ID and level, and the two between which the search ends.
func TestWayOfSome(t *testing.T) {
	for _, x := range []struct {
		from   int
		target api.Key
		want   string
	}{
		{4, at(5), "4/1 3/0 2/0: 2 3"},
		{4, at(9), "4/1 3/0: 3 4"},
		{4, at(4), "4/1 3/0 2/0: 2 3"},
		{4, at(3), "4/1 2/1 0/0: 0 2"},
		{4, at(0), "4/1 2/1 0/0: 0 2"},
		{4, at(10), "4/1: 4 1"},
		{4, highest, "4/1: 4 1"},
		{3, at(5), "3/1 2/0: 2 3"},
		{3, at(9), "3/1: 3 4"},
		{3, at(10), "3/1 4/0: 4 1"},
		{2, at(9), "2/1 3/0: 3 4"},
		{2, at(10), "2/1 4/1: 4 1"},
		{2, at(3), "2/1 0/0: 0 2"},
		{0, at(0), "0/1: 0 2"},
		{0, at(5), "0/1 2/1: 2 3"},
		{0, highest, "0/1 2/1 4/1: 4 1"},
		{1, highest, "1/1 4/0: 4 1"},
		{1, at(9), "1/1 4/1 3/0: 3 4"},
		{1, at(0), "1/1 4/1 2/1 0/0: 0 2"},
		{1, at(top), "1/1 4/0: 4 1"},
	} {
		w, a, b, e := Way(1, x.from, x.target, example()...)
		got := ""
		for _, h := range w {
			got += fmt.Sprintf("%d/%d ", h.At.ID, h.Level)
		}
		if got = fmt.Sprintf("%s: %d %d", got[:max(len(got)-1, 0)], a.ID, b.ID); got != x.want || e != 0 {
			t.Errorf("Way(%d, %v): %s, %d; not %s", x.from, x.target, got, e, x.want)
		}
	}
}

// P11.3: in a graph without members there are the ends alone.
func TestWayOfEnds(t *testing.T) {
	for _, height := range []int{0, 1, 32} {
		h, l := head(height), tail(height)
		for _, k := range []api.Key{at(0), at(5), at(top), highest} {
			if w, a, b, e := Way(height, 0, k); !slices.Equal(w, []api.Hop{{Level: height, At: h}}) || a != h || b != l || e != 0 {
				t.Errorf("from the head to %v: %v, %v, %v, %d", k, w, a, b, e)
			}
			if w, a, b, e := Way(height, 1, k); !slices.Equal(w, []api.Hop{{Level: height, At: l}, {At: h}}) || a != h || b != l || e != 0 {
				t.Errorf("from the tail to %v: %v, %v, %v, %d", k, w, a, b, e)
			}
		}
	}
}

// P11.3: first from whom, then where to.
func TestWayWrong(t *testing.T) {
	for _, s := range samples() {
		have := map[int]int{0: 1, 1: 1}
		for _, m := range s.l {
			have[m.ID] = 1
		}
		for _, id := range []int{-1, 0, 1, 2, 3, 4, 5, 9, 1022, 1023, 1024, 1 << 32, math.MinInt, math.MaxInt} {
			want := api.ErrMember
			if have[id] == 1 {
				want = api.ErrArg
			}
			for _, k := range wrongKeys() {
				if w, a, b, e := Way(s.height, id, k, s.l...); len(w) != 0 || a != (api.Ref{}) || b != (api.Ref{}) || e != want {
					t.Errorf("Way(%d, %d, %v, %v) = %v, %v, %v, %d", s.height, id, k, s.l, w, a, b, e)
				}
			}
			if have[id] == 1 {
				continue
			}
			for _, k := range append(s.targets(), lowest) {
				if w, a, b, e := Way(s.height, id, k, s.l...); len(w) != 0 || a != (api.Ref{}) || b != (api.Ref{}) || e != 111 {
					t.Errorf("Way(%d, %d, %v, %v) = %v, %v, %v, %d", s.height, id, k, s.l, w, a, b, e)
				}
			}
		}
	}
}
