package insert

import (
	"math"
	"strings"
	"testing"

	"leapfrog/api"
)

// bitsOf are vectors of the heights at which most is tried.
var bitsOf = []string{"", "1", "10", "011"}

// behind is what it wants when Me stands in a level's list: Walk of the level above, or Join.
func behind(c api.InsertConf, level int) api.Step {
	if level == c.Height {
		return joins(c)
	}
	return below1(c, level+1, c.Me)
}

// again is what it wants when it begins anew: at level 0 the search from the head, above that the splice from the head.
func again(c api.InsertConf, level int) api.Step {
	if level == 0 {
		return reads(low(c.Height), api.Vec{Len: c.Height})
	}
	return owned(c, level, low(c.Height), api.QLock)
}

// taken are rows of a splice that is over with ErrTaken.
func taken(c api.InsertConf, level int, left api.Ref, a api.Answer) []row {
	end := high(c.Height)
	return []row{
		{owned(c, level, left, api.QLock), onRight(end)},
		{owned(c, level, c.Me, api.QRec, left, end), a},
		{owned(c, level, left, api.QFree), yes},
	}
}

// dies are rows of splices that are over with ErrDead: Me was killed ahead of QRec, ahead of QFree, or ahead of QOut.
func dies(c api.InsertConf, level int, left api.Ref) [][]row {
	end := high(c.Height)
	in := entered(c, level, left, end)
	free := in[5]
	return [][]row{
		{in[0], {in[1].want, dead}, free},
		{in[0], {in[1].want, filled(api.ADead)}, free},
		{in[0], in[1], in[2], in[3], {in[4].want, dead}, free},
		{in[0], in[1], {in[2].want, no}, {owned(c, level, c.Me, api.QOut), dead}, free},
		{in[0], in[1], {in[2].want, dead}, {owned(c, level, c.Me, api.QOut), filled(api.ADead)}},
	}
}

// fails are rows of splices that are over with ErrAgain.
func fails(c api.InsertConf, level int, left api.Ref) [][]row {
	in := entered(c, level, left, high(c.Height))
	lock, free := in[0].want, in[5]
	return [][]row{
		{{lock, gone}},
		{{lock, filled(api.AGone)}},
		{{lock, dead}},
		{{lock, onRight(api.Ref{})}, free},
		{{lock, onRight(left)}, free},
		{in[0], in[1], {in[2].want, no}, {owned(c, level, c.Me, api.QOut), yes}, free},
		{in[0], in[1], {in[2].want, gone}, {owned(c, level, c.Me, api.QOut), no}, free},
		{in[0], in[1], {in[2].want, dead}, {owned(c, level, c.Me, api.QOut), yes}},
	}
}

// starts are somebody to begin with, of a height: the ends, and peers below Me, of its key, and above it.
func starts(height int) []api.Ref {
	w := strings.Repeat("1", height)
	return []api.Ref{low(height), high(height), ref(3, w), ref(5, w), {ID: 99, Key: at(5), Vec: v(w)}, ref(8, w), {ID: -3, Key: lowest, Vec: v(w)}}
}

// goDown are the rows of a search that stands on one below Me, and ends there.
func goDown(on, right api.Ref) []row {
	var l []row
	for n := on.Vec.Len; n >= 0; n-- {
		l = append(l, row{reads(on, first(on.Vec, n)), onRight(right)})
	}
	return l
}

// P15.1, Seek: the first search is from Start, for Me's Key, and the splice of level 0 from its Left.
func TestSearchFromStart(t *testing.T) {
	for _, bits := range bitsOf {
		for _, start := range starts(len(bits)) {
			c := plain(bits)
			c.Start = start
			for _, right := range []api.Ref{high(c.Height), ref(6, bits), {ID: 99, Key: at(5), Vec: c.Me.Vec}, c.Me} {
				l, left := goDown(start, right), start
				if start.Key.Rank == api.RHigh || start.Key.Rank == api.RAt && start.Key.N >= 5 {
					left = ref(4, strings.Repeat("0", len(bits)))
					// It walks to the left, in the list of all of Start's bits.
					l = append([]row{{reads(start, start.Vec), onLeft(left)}}, row{reads(left, start.Vec), onRight(right)})
					for n := c.Height - 1; n >= 0; n-- {
						l = append(l, row{reads(left, first(start.Vec, n)), onRight(right)})
					}
				}
				m := played(t, c, l)
				wants(t, m, owned(c, 0, left, api.QLock))
			}
		}
	}
}

// P15.1, Seek: Left is the result's, as it was told, whatever beside its key; its Right and Found are not asked for.
func TestSearchLeft(t *testing.T) {
	c := plain("1")
	for _, left := range []api.Ref{low(1), ref(4, "0"), ref(0, "1"), {ID: -7, Key: at(2), Vec: api.Vec{Len: -1}}, {ID: 15, Key: at(4), Vec: v("1")}, {ID: math.MaxInt, Key: at(3)}} {
		for _, right := range []api.Ref{high(1), ref(5, "0"), {ID: -7, Key: at(5)}, {ID: 15, Key: at(6)}} {
			m := played(t, c, sought(c, left, right))
			wants(t, m, owned(c, 0, left, api.QLock))
		}
	}
}

// P15.1, Seek: a search that is over with ErrBusy: over, with that; the first one, a later one, and the last one.
func TestSearchBusy(t *testing.T) {
	for _, bits := range bitsOf {
		for _, start := range starts(len(bits)) {
			c := plain(bits)
			c.Start = start
			for _, searches := range []int{1, 2, 64} {
				m := begin(t, c)
				for range searches - 1 {
					// The search begins again, as often as may be, and ends all the same: each counts for itself.
					for range api.MaxTries {
						m.Tell(no)
					}
					play(t, m, sought(c, low(c.Height), high(c.Height))...)
					play(t, m, fails(c, 0, low(c.Height))[0]...)
				}
				for n := range api.MaxTries + 1 {
					if n > 0 || searches > 1 {
						wants(t, m, again(c, 0))
					}
					m.Tell(no)
				}
				wants(t, m, over(api.ErrBusy))
			}
		}
	}
}

// P15.1, Splice: OK: on to Walk of the level above; of the level Height to Join.
func TestSpliceOK(t *testing.T) {
	for _, bits := range bitsOf {
		c := plain(bits)
		for level := range c.Height + 1 {
			for _, right := range []api.Ref{high(c.Height), ref(6, bits), ref(8, strings.Repeat("0", len(bits)))} {
				m := played(t, c, toSplice(c, level), entered(c, level, low(c.Height), right))
				wants(t, m, behind(c, level))
				// By a dead one's will, too.
				in := entered(c, level, low(c.Height), right)
				in[2].a = api.Answer{Kind: api.ADead, Right: c.Me}
				m = played(t, c, toSplice(c, level), in[:5])
				wants(t, m, behind(c, level))
			}
		}
	}
}

// P15.1, Splice: it goes right by itself, and the level above begins with Me all the same.
func TestSpliceGoesRight(t *testing.T) {
	for _, bits := range bitsOf {
		c := plain(bits)
		for level := range c.Height + 1 {
			l := toSplice(c, level)
			for _, step := range [][2]api.Ref{{low(c.Height), ref(2, bits)}, {ref(2, bits), ref(4, bits)}} {
				l = append(l, row{owned(c, level, step[0], api.QLock), onRight(step[1])}, row{owned(c, level, step[0], api.QFree), yes})
			}
			m := played(t, c, l, entered(c, level, ref(4, bits), ref(7, bits)))
			wants(t, m, behind(c, level))
		}
	}
}

// P15.1, Splice: ErrExists, which the list of no bits alone has: over, with that, and no sides.
func TestSpliceExists(t *testing.T) {
	for _, bits := range bitsOf {
		c := plain(bits)
		for _, left := range []api.Ref{low(c.Height), ref(4, bits)} {
			for _, twin := range []api.Ref{{ID: 99, Key: at(5), Vec: c.Me.Vec}, c.Me} {
				m := played(t, c, sought(c, left, twin), []row{
					{owned(c, 0, left, api.QLock), onRight(twin)},
					{reads(twin, v("")), onRight(high(c.Height))},
					{owned(c, 0, left, api.QFree), yes},
				})
				wants(t, m, over(api.ErrExists))
			}
		}
	}
}

// P15.1, Splice: ErrDead: over, with that, at each level.
func TestSpliceDead(t *testing.T) {
	for _, bits := range bitsOf {
		c := plain(bits)
		for level := range c.Height + 1 {
			for _, l := range dies(c, level, low(c.Height)) {
				m := played(t, c, toSplice(c, level), l)
				wants(t, m, over(api.ErrDead))
			}
		}
	}
}

// P15.1, Splice: ErrTaken: at level 0 over, with that; above it as if it were OK.
func TestSpliceTaken(t *testing.T) {
	for _, bits := range bitsOf {
		c := plain(bits)
		for _, a := range answers(api.AOK, api.ADead) {
			for level := range c.Height + 1 {
				m := played(t, c, toSplice(c, level), taken(c, level, low(c.Height), a))
				want := behind(c, level)
				if level == 0 {
					want = over(api.ErrTaken)
				}
				wants(t, m, want)
			}
		}
		if c.Height == 0 {
			continue
		}
		// Taken in all lists but that of no bits, it has joined all the same.
		l := toSplice(c, 0)
		l = append(l, entered(c, 0, low(c.Height), high(c.Height))...)
		for level := 1; level <= c.Height; level++ {
			l = append(l, row{below1(c, level, c.Me), onLeft(low(c.Height))})
			l = append(l, taken(c, level, low(c.Height), no)...)
		}
		m := played(t, c, l, []row{{joins(c), yes}})
		wants(t, m, over(api.OK))
	}
}

// P15.1, Splice: ErrAgain at level 0: a search from the head, wherever it began; the 64th search was the last one: ErrBusy.
func TestAgainBelow(t *testing.T) {
	for _, bits := range bitsOf {
		for _, start := range starts(len(bits))[:3] {
			c := plain(bits)
			c.Start = start
			h, end := low(c.Height), high(c.Height)
			ways := fails(c, 0, h)
			for one := range ways {
				m := begin(t, c)
				// So that the first search comes to the head, too, it begins again.
				m.Tell(no)
				for n := 1; n <= api.MaxTries; n++ {
					play(t, m, sought(c, h, end)...)
					way := ways[one]
					if one == 0 {
						way = ways[n%len(ways)]
					}
					play(t, m, way...)
					if n < api.MaxTries {
						wants(t, m, again(c, 0))
					}
				}
				wants(t, m, over(api.ErrBusy))
			}
		}
	}
}

// P15.1, Splice: the 64th search may end well.
func TestAgainLast(t *testing.T) {
	c := plain("1")
	h, end := low(1), high(1)
	m := begin(t, c)
	for range api.MaxTries - 1 {
		play(t, m, rows(sought(c, h, end), fails(c, 0, h)[2])...)
	}
	play(t, m, risen(c, 2)...)
	play(t, m, row{joins(c), yes})
	wants(t, m, over(api.OK))
}

// P15.1, Splice: ErrAgain at another level: the splice of that from the head, as often as it comes; there is no way back to Seek.
func TestAgainAbove(t *testing.T) {
	for _, bits := range bitsOf[1:] {
		c := plain(bits)
		h, end := low(c.Height), high(c.Height)
		for level := 1; level <= c.Height; level++ {
			from := ref(3, bits)
			for _, l := range fails(c, level, from) {
				m := played(t, c, risen(c, level), []row{{below1(c, level, c.Me), onLeft(from)}}, l)
				for range 3 {
					for _, more := range fails(c, level, h) {
						wants(t, m, again(c, level))
						play(t, m, more...)
					}
				}
				for range 2 * api.MaxTries {
					play(t, m, fails(c, level, h)[0]...)
				}
				play(t, m, entered(c, level, h, end)...)
				wants(t, m, behind(c, level))
			}
		}
	}
}

// P15.1: it waits when the splice that it plays does, at each level, and goes on with that behind a tick.
func TestWaits(t *testing.T) {
	for _, bits := range bitsOf {
		c := plain(bits)
		h, end := low(c.Height), high(c.Height)
		for level := range c.Height + 1 {
			lock, free := owned(c, level, h, api.QLock), owned(c, level, h, api.QFree)
			m := played(t, c, toSplice(c, level))
			for _, a := range answers(api.AOK, api.AGone, api.ADead) {
				play(t, m, row{lock, a}, row{want: waits()})
			}
			twin := api.Ref{ID: 99, Key: at(5), Vec: c.Me.Vec}
			for range 100 {
				play(t, m, row{lock, onRight(twin)})
				if level == 0 {
					play(t, m, row{reads(twin, v("")), filled(api.AOK)})
				}
				play(t, m, row{free, yes}, row{want: waits()})
			}
			play(t, m, entered(c, level, h, end)...)
			wants(t, m, behind(c, level))
		}
	}
}

// walks is an insertion at Walk of a level, which stands on Me.
func walks(t *testing.T, c api.InsertConf, level int) *Insert {
	t.Helper()
	m := played(t, c, risen(c, level))
	wants(t, m, below1(c, level, c.Me))
	return m
}

// eachWalk tries an answer on the Walk of each level, on Me, and on one that stands to the left of it and is not in the level's list.
func eachWalk(t *testing.T, try func(c api.InsertConf, level int, on api.Ref, m *Insert)) {
	t.Helper()
	for _, bits := range bitsOf[1:] {
		c := plain(bits)
		for level := 1; level <= c.Height; level++ {
			try(c, level, c.Me, walks(t, c, level))
			on := api.Ref{ID: 14, Key: at(4), Vec: flipped(c.Me.Vec, level-1)}
			m := walks(t, c, level)
			play(t, m, row{below1(c, level, c.Me), onLeft(on)})
			wants(t, m, below1(c, level, on))
			try(c, level, on, m)
		}
	}
}

// flipped is a vector with one bit turned.
func flipped(w api.Vec, i int) api.Vec {
	w.Bits ^= 1 << (w.Len - 1 - i)
	return w
}

// P15.1, Walk: a Left whose Key is no key: the splice is from the head, though its vector begins with the list.
func TestWalkNoKey(t *testing.T) {
	for _, k := range wrongKeys() {
		eachWalk(t, func(c api.InsertConf, level int, on api.Ref, m *Insert) {
			m.Tell(onLeft(api.Ref{ID: 13, Key: k, Vec: c.Me.Vec}))
			wants(t, m, owned(c, level, low(c.Height), api.QLock))
		})
	}
}

// P15.1, Walk: a Left that is not below the one on which it stands: the splice is from the head.
func TestWalkNotBelow(t *testing.T) {
	eachWalk(t, func(c api.InsertConf, level int, on api.Ref, m *Insert) {
		for _, k := range []api.Key{on.Key, at(on.Key.N + 1), at(top), highest} {
			for _, w := range []api.Vec{c.Me.Vec, on.Vec, v("")} {
				n := *m
				n.Tell(onLeft(api.Ref{ID: 13, Key: k, Vec: w}))
				wants(t, &n, owned(c, level, low(c.Height), api.QLock))
			}
		}
		m.Tell(onLeft(on))
		wants(t, m, owned(c, level, low(c.Height), api.QLock))
	})
}

// P15.1, Walk: a Left whose Key is RLow: the splice is from that, whatever else it is.
func TestWalkLow(t *testing.T) {
	for _, id := range []int{0, 7, 15, -1} {
		for _, w := range append(wrongVecs(), v(""), v("00"), v("111")) {
			eachWalk(t, func(c api.InsertConf, level int, on api.Ref, m *Insert) {
				left := api.Ref{ID: id, Key: lowest, Vec: w}
				m.Tell(onLeft(left))
				wants(t, m, owned(c, level, left, api.QLock))
			})
		}
	}
}

// P15.1, Walk: a Left whose Vec begins with the level's list: the splice is from that, whatever bits it has behind.
func TestWalkIn(t *testing.T) {
	eachWalk(t, func(c api.InsertConf, level int, on api.Ref, m *Insert) {
		list := first(c.Me.Vec, level)
		for _, more := range []string{"", "0", "1", "01", "1111"} {
			for _, id := range []int{0, 2, 15, -1} {
				n := *m
				tail := v(more)
				left := api.Ref{ID: id, Key: at(on.Key.N - 1), Vec: api.Vec{Len: list.Len + tail.Len, Bits: list.Bits<<tail.Len | tail.Bits}}
				n.Tell(onLeft(left))
				wants(t, &n, owned(c, level, left, api.QLock))
			}
		}
	})
}

// P15.1, Walk: a Left that has none of these: it stands on that, and reads it in the list below; so on, till one has.
func TestWalkOn(t *testing.T) {
	eachWalk(t, func(c api.InsertConf, level int, on api.Ref, m *Insert) {
		list := first(c.Me.Vec, level)
		out := append(wrongVecs(), v(""), first(list, level-1), flipped(list, 0), flipped(list, level-1), flipped(c.Me.Vec, level-1))
		// One that would begin with the list, if it were a vector.
		out = append(out, api.Vec{Len: 33, Bits: list.Bits << (33 - list.Len)}, api.Vec{Len: list.Len, Bits: list.Bits | 1<<40})
		for _, w := range out {
			n := *m
			left := api.Ref{ID: 13, Key: at(3), Vec: w}
			n.Tell(onLeft(left))
			wants(t, &n, below1(c, level, left))
			for _, a := range []api.Answer{onLeft(ref(2, "")), onLeft(api.Ref{ID: 15, Key: at(1), Vec: w}), onLeft(api.Ref{ID: 15, Key: at(0)})} {
				n.Tell(a)
				wants(t, &n, below1(c, level, a.Left))
			}
			n.Tell(onLeft(low(c.Height)))
			wants(t, &n, owned(c, level, low(c.Height), api.QLock))
		}
	})
}

// P15.1, Walk: of AOK the Left alone counts.
func TestWalkLeftAlone(t *testing.T) {
	c := plain("10")
	for _, right := range []api.Ref{{}, low(2), ref(4, "10"), ref(9, "10"), c.Me} {
		for _, marked := range []bool{false, true} {
			m := walks(t, c, 1)
			m.Tell(api.Answer{Kind: api.AOK, Marked: marked, Left: ref(4, "01"), Right: right, Value: []byte("abc")})
			wants(t, m, below1(c, 1, ref(4, "01")))
			m.Tell(api.Answer{Kind: api.AOK, Marked: marked, Left: ref(3, "11"), Right: right, Value: []byte("abc")})
			wants(t, m, owned(c, 1, ref(3, "11"), api.QLock))
		}
	}
}

// P15.1, Walk: ADead of Me: over, with ErrDead; of another one, by a will or without one: the splice is from the head.
func TestWalkDead(t *testing.T) {
	eachWalk(t, func(c api.InsertConf, level int, on api.Ref, m *Insert) {
		for _, a := range []api.Answer{dead, filled(api.ADead), {Kind: api.ADead, Left: low(c.Height), Right: c.Me}, {Kind: api.ADead, Left: api.Ref{ID: 13, Key: at(3), Vec: c.Me.Vec}}} {
			n := *m
			n.Tell(a)
			want := over(api.ErrDead)
			if on != c.Me {
				want = owned(c, level, low(c.Height), api.QLock)
			}
			wants(t, &n, want)
		}
	})
	// Another one that has Me's ID, or its vector, is not Me.
	c := plain("10")
	for _, on := range []api.Ref{{ID: c.Me.ID, Key: at(4)}, {ID: c.Me.ID, Key: at(4), Vec: v("01")}} {
		m := walks(t, c, 1)
		play(t, m, row{below1(c, 1, c.Me), onLeft(on)}, row{below1(c, 1, on), dead})
		wants(t, m, owned(c, 1, low(2), api.QLock))
	}
}

// P15.1, Walk: any other answer: the splice is from the head, though it has a Left from which one could go.
func TestWalkOther(t *testing.T) {
	eachWalk(t, func(c api.InsertConf, level int, on api.Ref, m *Insert) {
		for _, a := range answers(api.AOK, api.ADead) {
			for _, left := range []api.Ref{a.Left, {ID: 13, Key: at(3), Vec: c.Me.Vec}, ref(3, ""), {ID: 7, Key: lowest}} {
				n := *m
				a.Left = left
				n.Tell(a)
				wants(t, &n, owned(c, level, low(c.Height), api.QLock))
			}
		}
	})
}

// P15.1, Walk: each Walk begins with Me, wherever the one below it ended.
func TestWalkFromMe(t *testing.T) {
	c := plain("011")
	m := played(t, c, risen(c, 1))
	left := []api.Ref{ref(2, "010"), ref(1, "011"), low(3)}
	for level := 1; level <= 3; level++ {
		on := api.Ref{ID: 14, Key: at(4), Vec: flipped(c.Me.Vec, level-1)}
		play(t, m, row{below1(c, level, c.Me), onLeft(on)}, row{below1(c, level, on), onLeft(left[level-1])})
		play(t, m, entered(c, level, left[level-1], high(3))...)
	}
	wants(t, m, joins(c))
}

// P15.1, Join: ADead: over, with ErrDead; any other: over, OK.
func TestJoin(t *testing.T) {
	for _, bits := range bitsOf {
		c := plain(bits)
		for _, a := range answers() {
			m := played(t, c, risen(c, c.Height+1), []row{{joins(c), a}})
			want := over(api.OK)
			if a.Kind == api.ADead {
				want = over(api.ErrDead)
			}
			wants(t, m, want)
		}
	}
}

// The head that it goes back to is that of its height.
func TestHead(t *testing.T) {
	for height := range api.MaxVec + 1 {
		if h := head(height); h != low(height) {
			t.Errorf("%v", h)
		}
	}
}
