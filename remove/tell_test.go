package remove

import (
	"math"
	"strings"
	"testing"

	"leapfrog/api"
)

// bitsOf are vectors of the heights at which most is tried.
var bitsOf = []string{"", "1", "10", "011"}

// five is the peer of the key, of a vector.
func five(w api.Vec) api.Ref {
	return api.Ref{ID: 15, Key: at(5), Vec: w}
}

// atMarks is a removal that asks one QMark, found between the ends.
func atMarks(t *testing.T, height int, x api.Ref) *Remove {
	t.Helper()
	m := played(t, plain(height), toMark(height, x))
	wants(t, m, marks(x))
	return m
}

// starts are somebody to begin with, of a height: the ends, and peers below the key, of it, and above it.
func starts(height int) []api.Ref {
	w := strings.Repeat("1", height)
	return []api.Ref{low(height), high(height), ref(3, w), ref(5, w), {ID: 99, Key: at(5), Vec: v(w)}, ref(8, w), {ID: -3, Key: lowest, Vec: v(w)}}
}

// goDown are the rows of a search from somebody, which ends between one that is below the key, and another one.
func goDown(start, right api.Ref) []row {
	var l []row
	on := start
	if start.Key.Rank == api.RHigh || start.Key.Rank == api.RAt && start.Key.N >= 5 {
		// It goes to the left, in the list of all of Start's bits.
		on = ref(4, strings.Repeat("0", start.Vec.Len))
		l = append(l, row{reads(start, start.Vec), onLeft(on)})
	}
	for n := start.Vec.Len; n >= 0; n-- {
		l = append(l, row{reads(on, first(start.Vec, n)), onRight(right)})
	}
	return l
}

// P16.1, P16.2, 1: the search is from Start, for the key; found: its Right, as it was told, is asked QMark, whatever its ID is.
func TestFound(t *testing.T) {
	for _, bits := range bitsOf {
		for _, start := range starts(len(bits)) {
			c := plain(len(bits))
			c.Start = start
			for _, x := range []api.Ref{ref(5, bits), start, {ID: 0, Key: at(5), Vec: v(bits)}, {ID: -7, Key: at(5)}, {ID: math.MaxInt, Key: at(5), Vec: v("111")}} {
				if x.Key == at(5) {
					wants(t, played(t, c, goDown(start, x)), marks(x))
				}
			}
		}
	}
}

// P16.1, P16.2, 1: any key may be the one.
func TestAnyKey(t *testing.T) {
	for _, k := range []uint64{0, 1, 7, 1 << 63, top} {
		c := plain(1)
		c.Key = k
		x := api.Ref{ID: 15, Key: at(k), Vec: v("1")}
		m := played(t, c, toList(1, x, -1))
		ends(t, m, api.OK, true)
		m = played(t, c, sought(1, low(1), high(1)))
		ends(t, m, api.ErrAbsent, false)
		for _, other := range []uint64{k - 1, k + 1, k ^ 1<<63} {
			if other > k {
				m = played(t, c, sought(1, low(1), api.Ref{ID: 15, Key: at(other), Vec: v("1")}))
				ends(t, m, api.ErrAbsent, false)
			}
		}
	}
}

// P16.2, 1: not found: ErrAbsent, and nobody is asked anything more.
func TestNotFound(t *testing.T) {
	for _, bits := range bitsOf {
		for _, start := range starts(len(bits)) {
			c := plain(len(bits))
			c.Start = start
			for _, right := range []api.Ref{high(len(bits)), ref(6, bits), {ID: 15, Key: at(top)}, {ID: 15, Key: highest, Vec: v(bits)}} {
				ends(t, played(t, c, goDown(start, right)), api.ErrAbsent, false)
			}
		}
	}
}

// P16.2, 1: the search takes the wills of the dead that it looks at, and passes them.
func TestFoundBehindDead(t *testing.T) {
	h, three, four, x := low(0), ref(3, ""), ref(4, ""), ref(5, "")
	will := api.Answer{Kind: api.ADead, Left: three, Right: x}
	passed := []row{
		{reads(h, v("")), onRight(three)}, {reads(three, v("")), onRight(four)}, {reads(four, v("")), will}, {reads(three, v("")), onRight(four)},
	}
	m := played(t, plain(0), passed)
	wants(t, m, marks(x))
	play(t, m, row{marks(x), yes})
	play(t, m, out(x, v(""), four, high(0))...)
	ends(t, m, api.OK, true)
	passed[2].a.Right = ref(6, "")
	ends(t, played(t, plain(0), passed), api.ErrAbsent, false)
}

// P16.2, 1: a search that is over with ErrBusy: over, with that, behind as many answers of any kind that let it begin again.
func TestSearchBusy(t *testing.T) {
	for _, bits := range bitsOf {
		for _, start := range starts(len(bits)) {
			for _, a := range append(answers(api.AOK), onRight(api.Ref{}), onRight(low(0))) {
				c := plain(len(bits))
				c.Start = start
				m := begin(t, c)
				for n := range api.MaxTries + 1 {
					if n > 0 {
						wants(t, m, reads(low(c.Height), api.Vec{Len: c.Height}))
					}
					m.Tell(a)
				}
				ends(t, m, api.ErrBusy, false)
			}
		}
	}
	// One less, and it goes on.
	m := begin(t, plain(1))
	for range api.MaxTries {
		m.Tell(no)
	}
	play(t, m, toList(1, ref(5, "1"), -1)...)
	ends(t, m, api.OK, true)
}

// P16.2, 2: AOK, with anything beside it: it is marked, and the unsplice of the list of all of its bits begins.
func TestMarkOK(t *testing.T) {
	for _, bits := range bitsOf {
		x := ref(5, bits)
		for _, a := range []api.Answer{yes, filled(api.AOK), {Kind: api.AOK, Value: []byte("v")}, {Kind: api.AOK, Marked: true}} {
			m := atMarks(t, len(bits), x)
			if m.Marked() {
				t.Error("marked ahead of the answer")
			}
			m.Tell(a)
			wants(t, m, reads(x, x.Vec))
			if !m.Marked() {
				t.Errorf("%v: not marked", a)
			}
		}
	}
}

// P16.2, 2: ADead: over, with ErrDead; whether it was marked is not told, by its will neither.
func TestMarkDead(t *testing.T) {
	for _, bits := range bitsOf {
		for _, a := range []api.Answer{dead, filled(api.ADead), {Kind: api.ADead, Marked: true}} {
			m := atMarks(t, len(bits), ref(5, bits))
			m.Tell(a)
			ends(t, m, api.ErrDead, false)
		}
	}
}

// P16.2, 2: any other answer: over, with ErrAbsent.
func TestMarkOther(t *testing.T) {
	for _, bits := range bitsOf {
		for _, a := range answers(api.AOK, api.ADead) {
			m := atMarks(t, len(bits), ref(5, bits))
			m.Tell(a)
			ends(t, m, api.ErrAbsent, false)
		}
	}
}

// leaves are rows of unsplices that are over with OK.
func leaves(x api.Ref, w api.Vec, left, right api.Ref) [][]row {
	in := out(x, w, left, right)
	l := [][]row{
		in,
		{{in[0].want, gone}},
		{{in[0].want, filled(api.AGone)}},
		{in[0], in[1], {in[2].want, gone}, in[6]},
		{in[0], in[1], in[2], {in[3].want, api.Answer{Kind: api.ADead, Right: right}}, in[4], in[5], in[6]},
	}
	for _, a := range answers(api.ADead) {
		l = append(l, []row{in[0], in[1], in[2], in[3], {in[4].want, a}, {in[5].want, a}, {in[6].want, a}})
	}
	return l
}

// P16.2, 3: OK, and the list has bits: the one of one bit less; else over, with OK.
func TestListsOK(t *testing.T) {
	for _, bits := range bitsOf {
		x := ref(5, bits)
		for n := len(bits); n >= 0; n-- {
			for _, left := range []api.Ref{low(len(bits)), ref(4, bits)} {
				for _, l := range leaves(x, first(x.Vec, n), left, ref(8, bits)) {
					m := played(t, plain(len(bits)), toList(len(bits), x, n), l)
					if n == 0 {
						ends(t, m, api.OK, true)
						continue
					}
					wants(t, m, reads(x, first(x.Vec, n-1)))
					play(t, m, row{reads(x, first(x.Vec, n-1)), onLeft(left)})
				}
			}
		}
	}
}

// dies are rows of unsplices that are over with ErrDead.
func dies(x api.Ref, w api.Vec, left, right api.Ref) [][]row {
	in := out(x, w, left, right)
	return [][]row{
		{{in[0].want, dead}},
		{{in[0].want, filled(api.ADead)}},
		{in[0], in[1], {in[2].want, dead}, in[6]},
		{in[0], in[1], in[2], in[3], in[4], {in[5].want, filled(api.ADead)}, in[6]},
		{in[0], in[1], in[2], in[3], {in[4].want, dead}, {in[5].want, dead}, {in[6].want, dead}},
	}
}

// P16.2, 3: ErrDead, of any list: over, with OK, and no list of less bits is left.
func TestListsDead(t *testing.T) {
	for _, bits := range bitsOf {
		x := ref(5, bits)
		for n := len(bits); n >= 0; n-- {
			for _, l := range dies(x, first(x.Vec, n), low(len(bits)), ref(8, bits)) {
				ends(t, played(t, plain(len(bits)), toList(len(bits), x, n), l), api.OK, true)
			}
		}
	}
}

// P16.2, P16.5: it waits when the unsplice does, in each list, having given back what it held, and begins that list again behind a tick, as often as it comes.
func TestWaits(t *testing.T) {
	for _, bits := range bitsOf {
		x, left, right := ref(5, bits), ref(4, bits), ref(8, bits)
		for n := len(bits); n >= 0; n-- {
			w := first(x.Vec, n)
			in := out(x, w, left, right)
			wait := row{want: waits()}
			free := row{owned(x, api.QFree, w), yes}
			m := played(t, plain(len(bits)), toList(len(bits), x, n))
			for _, a := range answers(api.AOK, api.AGone, api.ADead) {
				play(t, m, row{in[0].want, a}, wait)
				play(t, m, in[0], row{in[1].want, a}, wait)
				play(t, m, in[0], in[1], row{in[2].want, a}, in[6], wait)
				play(t, m, in[0], in[1], in[2], row{in[3].want, a}, free, in[6], wait)
			}
			for range 100 {
				play(t, m, row{in[0].want, onLeft(x)}, wait)
				play(t, m, in[0], row{in[1].want, onRight(right)}, in[6], wait)
				play(t, m, in[0], in[1], row{in[2].want, onRight(left)}, free, in[6], wait)
			}
			play(t, m, in...)
			if n == 0 {
				ends(t, m, api.OK, true)
			} else {
				wants(t, m, reads(x, first(x.Vec, n-1)))
			}
		}
	}
}

// P16.2, 3: a found peer whose settings unsplice does not take: marked, and over, with OK.
func TestNoVec(t *testing.T) {
	for _, height := range []int{0, 1, 3, 32} {
		for _, w := range wrongVecs() {
			m := atMarks(t, height, five(w))
			m.Tell(yes)
			ends(t, m, api.OK, true)
			// Ahead of that its answer counts as another one's.
			m = atMarks(t, height, five(w))
			m.Tell(no)
			ends(t, m, api.ErrAbsent, false)
			m = atMarks(t, height, five(w))
			m.Tell(dead)
			ends(t, m, api.ErrDead, false)
		}
	}
}

// P16.2, 2 and 3: the lists are those of the bits that the found peer has, more or less of them than the height.
func TestOtherVec(t *testing.T) {
	for _, height := range []int{0, 1, 3, 32} {
		for _, bits := range []string{"", "0", "1", "10", "0110", strings.Repeat("1", 31), strings.Repeat("01", 16), strings.Repeat("1", 32)} {
			ends(t, played(t, plain(height), toList(height, ref(5, bits), -1)), api.OK, true)
		}
	}
}

// P16.2, 3: all locks are asked for by Owner.
func TestOwner(t *testing.T) {
	for _, o := range []api.Owner{{Agent: 0, Op: 1}, {Agent: 7, Op: 9}, {Agent: api.MaxPeers - 1, Op: api.MaxOps}} {
		c := plain(1)
		c.Owner = o
		m := begin(t, c)
		x := ref(5, "1")
		for _, r := range toList(1, x, -1) {
			if r.want.Ask.Owner == own {
				r.want.Ask.Owner = o
			}
			play(t, m, r)
		}
		ends(t, m, api.OK, true)
	}
}
