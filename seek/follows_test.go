package seek

import (
	"slices"
	"strings"
	"testing"

	"leapfrog/api"
	"leapfrog/graph"
)

// below tells whether a key stands ahead of another one.
func below(a, b api.Key) bool {
	return a.Rank < b.Rank || a.Rank == b.Rank && a.N < b.N
}

// draw makes numbers that look like chance, the same each time.
type draw uint64

func (d *draw) below(n int) int {
	*d = *d*6364136223846793005 + 1442695040888963407
	return int(uint64(*d)>>33) % n
}

// spot is the place of a record: whose, and of which list.
type spot struct {
	id int
	w  api.Vec
}

// still is peers that do not change: their records, by definition, and which of them are dead.
type still struct {
	height int
	l      []api.Ref // with the ends, by their keys
	recs   map[spot]api.RecState
	dead   map[int]bool
}

// lay are members that do not change, all of them alive.
func lay(t *testing.T, height int, l ...api.Ref) still {
	t.Helper()
	states, e := graph.Records(height, l...)
	if e != api.OK {
		t.Fatalf("Records(%d, %v): %d", height, l, e)
	}
	s := still{height: height, recs: map[spot]api.RecState{}, dead: map[int]bool{}}
	for _, x := range states {
		s.l = append(s.l, x.Me)
		for _, r := range x.Recs {
			s.recs[spot{x.Me.ID, r.W}] = r
		}
	}
	slices.SortFunc(s.l, func(a, b api.Ref) int {
		if below(a.Key, b.Key) {
			return -1
		}
		return 1
	})
	return s
}

// answer is what one answers, of a list.
func (s still) answer(to api.Ref, w api.Vec) api.Answer {
	r, in := s.recs[spot{to.ID, w}]
	a := api.Answer{Kind: api.AOK, Left: r.Left, Right: r.Right}
	switch {
	case s.dead[to.ID]:
		a.Kind = api.ADead
	case in:
	case to.ID == 0:
		a.Right = tail(s.height)
	case to.ID == 1:
		a.Left = head(s.height)
	default:
		a.Kind = api.AGone
	}
	return a
}

// run lets a search ask till it is over: its result, and whom it asked in which lists, each time.
func (s still) run(t *testing.T, k *Seek) (api.Result, []api.Step) {
	t.Helper()
	var way []api.Step
	for range 100000 {
		x := k.Next()
		if x.Kind == api.SDone {
			return x.Result, way
		}
		if !same(x, reads(x.To, bits(x.Ask.W))) {
			t.Fatalf("wants %v", x)
		}
		way = append(way, x)
		k.Tell(s.answer(x.To, x.Ask.W))
	}
	t.Fatal("it does not end")
	return api.Result{}, nil
}

// want is what a search must end with: the last living one below the target, the first one that is not below.
func (s still) want(target api.Key) api.Result {
	var r api.Result
	for _, m := range s.l {
		if below(m.Key, target) && !s.dead[m.ID] {
			r.Left = m
		}
		if !below(m.Key, target) {
			r.Right, r.Found = m, m.Key == target
			break
		}
	}
	return r
}

// alike tells whether two results are.
func alike(a, b api.Result) bool {
	return same(api.Step{Result: a}, api.Step{Result: b})
}

// targets are keys that members have, and those beside them, and RHigh.
func (s still) targets() []api.Key {
	l := []api.Key{highest, at(0), at(top), at(1 << 40)}
	for _, m := range s.l[1 : len(s.l)-1] {
		l = append(l, m.Key)
		if m.Key.N > 0 {
			l = append(l, at(m.Key.N-1))
		}
		if m.Key.N < top {
			l = append(l, at(m.Key.N+1))
		}
	}
	return l
}

// drawn are so many members of a height, with IDs in no order; few lets them share their first bits, but two.
func drawn(d *draw, height, n int, few bool) []api.Ref {
	var l []api.Ref
	ids, k := []int{}, uint64(d.below(3))
	for i := range n {
		w := api.Vec{Len: height}
		for i := range height {
			bit := uint64(d.below(2))
			if few && i < height-2 {
				bit = 0
			}
			w.Bits = w.Bits*2 + bit
		}
		ids = append(ids, 2+i)
		j := d.below(i + 1)
		ids[i], ids[j] = ids[j], ids[i]
		l = append(l, api.Ref{Key: at(k), Vec: w})
		k += 1 + uint64(d.below(3))
	}
	for i := range l {
		l[i].ID = ids[i]
	}
	return l
}

// graphs are peers that do not change, few and many, of low heights and of great ones.
func graphs(t *testing.T) []still {
	t.Helper()
	l := []still{
		lay(t, 0), lay(t, 1), lay(t, 32), lay(t, 0, ref(0, "")), lay(t, 0, ref(5, ""), ref(9, "")),
		lay(t, 1, ref(3, "0"), ref(5, "1"), ref(9, "0")), lay(t, 2, ref(5, "01"), ref(9, "10"), ref(12, "11")),
		lay(t, 32, ref(5, strings.Repeat("1", 32)), ref(6, strings.Repeat("1", 31)+"0"), ref(7, strings.Repeat("0", 32)), api.Ref{ID: 9, Key: at(top), Vec: v(strings.Repeat("0", 32))}),
	}
	d := draw(3)
	for _, height := range []int{0, 1, 2, 3, 5, 32} {
		for _, n := range []int{1, 2, 3, 5, 9, 20} {
			l = append(l, lay(t, height, drawn(&d, height, n, false)...), lay(t, height, drawn(&d, height, n, true)...))
		}
	}
	return l
}

// P12.4: all live: from anybody it ends between the same two, and never begins again.
func TestFound(t *testing.T) {
	for _, s := range graphs(t) {
		for _, target := range s.targets() {
			for _, from := range s.l {
				k := begin(t, from, target)
				if r, way := s.run(t, k); !alike(r, s.want(target)) || k.Tries() != 0 {
					t.Fatalf("from %v to %v among %v: %v by %v, %d times again", from, target, s.l, r, way, k.Tries())
				}
			}
		}
	}
}

// P12.4: from one below the target it takes the way that the graph has by definition.
func TestWay(t *testing.T) {
	for _, s := range graphs(t) {
		for _, target := range s.targets() {
			for _, from := range s.l {
				if !below(from.Key, target) {
					continue
				}
				hops, _, _, e := graph.Way(s.height, from.ID, target, s.l[1:len(s.l)-1]...)
				_, way := s.run(t, begin(t, from, target))
				var got []api.Hop
				for _, x := range way {
					if n := len(got); n == 0 || got[n-1].At != x.To {
						got = append(got, api.Hop{Level: x.Ask.W.Len, At: x.To})
					}
				}
				if e != api.OK || !slices.Equal(got, hops) {
					t.Fatalf("from %v to %v among %v: %v; not %v, %d", from, target, s.l, got, hops, e)
				}
			}
		}
	}
}

// P12.4: it leaps: among a thousand it asks few.
func TestFew(t *testing.T) {
	d := draw(5)
	s := lay(t, 10, drawn(&d, 10, 1000, false)...)
	for _, target := range []api.Key{at(0), at(500), at(999), at(1500), highest} {
		if r, way := s.run(t, begin(t, head(10), target)); !alike(r, s.want(target)) || len(way) > 60 {
			t.Errorf("to %v: %v by %d asks", target, r, len(way))
		}
	}
}

// kill lets some be dead, at most so many.
func (s still) kill(d *draw, n int) still {
	s.dead = map[int]bool{}
	for range n {
		if m := s.l[d.below(len(s.l))]; m.ID > 1 {
			s.dead[m.ID] = true
		}
	}
	return s
}

// P12.4, P12.7: some are dead: from the head it ends with the last living one; and, told that who is behind it is dead, comes to the first living one there.
func TestFoundOfDead(t *testing.T) {
	d := draw(9)
	for _, s := range graphs(t) {
		for range 8 {
			s = s.kill(&d, d.below(1+api.MaxTries/(s.height+1)))
			for _, target := range s.targets() {
				k := begin(t, head(s.height), target)
				if r, way := s.run(t, k); !alike(r, s.want(target)) || k.Tries() > len(s.dead)*(s.height+1) {
					t.Fatalf("to %v among %v, dead %v: %v by %v, %d times again", target, s.l, s.dead, r, way, k.Tries())
				}
				s.goPast(t, k, target)
			}
		}
	}
}

// goPast tells a search that who was found is dead, as long as that is so.
func (s still) goPast(t *testing.T, k *Seek, target api.Key) {
	t.Helper()
	want := s.want(target)
	i := slices.Index(s.l, want.Right)
	for r := k.Next().Result; s.dead[r.Right.ID] && k.Tries() < api.MaxTries; i++ {
		k.Dead(s.answer(r.Right, api.Vec{}))
		r, _ = s.run(t, k)
		next := s.l[i+1]
		if !alike(r, api.Result{Left: want.Left, Right: next, Found: next.Key == target}) {
			t.Fatalf("to %v among %v, dead %v: %v; not %v, %v", target, s.l, s.dead, r, want.Left, next)
		}
	}
}

// P12.4: as many dead as may be, times the lists of a peer; and one more.
func TestFoundOfManyDead(t *testing.T) {
	for _, x := range []struct {
		bits string
		n    int
	}{{"", 64}, {"0", 32}, {"000", 16}, {strings.Repeat("0", 31), 2}, {"", 65}, {"0", 33}, {"000", 17}, {strings.Repeat("0", 31), 3}} {
		var l []api.Ref
		for i := range x.n + 1 {
			l = append(l, ref(uint64(i), x.bits))
		}
		s := lay(t, len(x.bits), l...)
		for _, m := range l[:x.n] {
			s.dead[m.ID] = true
		}
		want := s.want(at(uint64(x.n)))
		tries := x.n * (len(x.bits) + 1)
		if tries > api.MaxTries {
			want, tries = api.Result{E: api.ErrBusy}, api.MaxTries
		}
		k := begin(t, head(s.height), at(uint64(x.n)))
		if r, _ := s.run(t, k); !alike(r, want) || k.Tries() != tries {
			t.Errorf("%d dead of %q: %v, %d times again; not %v, %d", x.n, x.bits, r, k.Tries(), want, tries)
		}
	}
}
