package read

import (
	"math"
	"strings"
	"testing"

	"leapfrog/api"
)

// bitsOf are vectors of the heights at which most is tried.
var bitsOf = []string{"", "1", "10", "011"}

// starts are somebody to begin with, of a height: the ends, and peers below the key, of it, and above it.
func starts(height int) []api.Ref {
	w := strings.Repeat("1", height)
	return []api.Ref{low(height), high(height), ref(3, w), ref(5, w), {ID: 99, Key: at(5), Vec: v(w)}, ref(8, w), {ID: -3, Key: lowest, Vec: v(w)}}
}

// goDown are the rows of a search from somebody, which ends between one that is below the key, and another one.
func goDown(start, right api.Ref) []row {
	var l []row
	on := start
	if start.Key.Rank == api.RHigh || start.Key.Rank == api.RAt && start.Key.N >= 5 {
		// It goes to the left, in the list of all of Start's bits.
		on = ref(4, strings.Repeat("0", start.Vec.Len))
		l = append(l, row{reads(start, start.Vec), onLeft(on)})
	}
	for n := start.Vec.Len; n >= 0; n-- {
		l = append(l, row{reads(on, first(start.Vec, n)), onRight(right)})
	}
	return l
}

// settings are those of a Get, and of a Ceil, from each of starts, of each height.
func settings() []api.ReadConf {
	var l []api.ReadConf
	for _, bits := range bitsOf {
		for _, start := range starts(len(bits)) {
			for _, c := range both(len(bits)) {
				c.Start = start
				l = append(l, c)
			}
		}
	}
	return l
}

// P17.1, at Seek: the search is from Start, for the key; found: its Right, as it was told, is asked QGet, whatever its ID is; of a Get, and of a Ceil.
func TestFound(t *testing.T) {
	for _, c := range settings() {
		bits := strings.Repeat("1", c.Height)
		for _, x := range []api.Ref{ref(5, bits), {ID: 0, Key: at(5), Vec: v(bits)}, {ID: -7, Key: at(5)}, {ID: math.MaxInt, Key: at(5), Vec: v("111")}, {ID: 1, Key: at(5), Vec: api.Vec{Len: -1}}} {
			wants(t, played(t, c, goDown(c.Start, x)), gets(x))
		}
	}
}

// P17.1, at Seek: any key may be the one.
func TestAnyKey(t *testing.T) {
	for _, k := range []uint64{0, 1, 7, 1 << 63, top} {
		for _, c := range both(1) {
			c.Key = k
			x := api.Ref{ID: 15, Key: at(k), Vec: v("1")}
			wants(t, played(t, c, sought(1, low(1), x), []row{{gets(x), has("v")}}), tells(k, "v"))
			wants(t, played(t, c, sought(1, low(1), high(1))), over(api.ErrAbsent))
			for _, other := range []uint64{k + 1, k ^ 1<<63, top} {
				if x := (api.Ref{ID: 15, Key: at(other), Vec: v("1")}); other > k && c.Ceil {
					wants(t, played(t, c, sought(1, low(1), x), []row{{gets(x), has("v")}}), tells(other, "v"))
				} else if other > k {
					wants(t, played(t, c, sought(1, low(1), x)), over(api.ErrAbsent))
				}
			}
		}
	}
}

// P17.1, at Seek: not found: a Get is over with ErrAbsent; a Ceil asks who is there QGet, if that is not the tail.
func TestNotFound(t *testing.T) {
	for _, c := range settings() {
		for _, right := range []api.Ref{ref(6, ""), {ID: 1, Key: at(top)}, {ID: -1, Key: at(7), Vec: v("0101")}} {
			m := played(t, c, goDown(c.Start, right))
			if c.Ceil {
				wants(t, m, gets(right))
			} else {
				wants(t, m, over(api.ErrAbsent))
			}
		}
		for _, right := range []api.Ref{high(c.Height), {ID: 15, Key: highest}, {ID: -1, Key: highest, Vec: v("1")}} {
			wants(t, played(t, c, goDown(c.Start, right)), over(api.ErrAbsent))
		}
	}
}

// P17.1, at Seek: the search takes the wills of the dead that it looks at, and passes them.
func TestFoundBehindDead(t *testing.T) {
	h, three, four, x := low(0), ref(3, ""), ref(4, ""), ref(5, "")
	passed := []row{
		{reads(h, v("")), onRight(three)}, {reads(three, v("")), onRight(four)}, {reads(four, v("")), will(x)}, {reads(three, v("")), onRight(four)},
	}
	for _, c := range both(0) {
		wants(t, played(t, c, passed, []row{{gets(x), has("v")}}), tells(5, "v"))
	}
	passed[2].a.Right = high(0)
	for _, c := range both(0) {
		wants(t, played(t, c, passed), over(api.ErrAbsent))
	}
}

// P17.1, at Seek: a search that is over with ErrBusy: over, with that, behind as many answers of any kind that let it begin again.
func TestSearchBusy(t *testing.T) {
	for _, c := range settings() {
		for _, a := range append(answers(api.AOK), onRight(api.Ref{}), onRight(low(0))) {
			m := begin(t, c)
			for n := range api.MaxTries + 1 {
				if n > 0 {
					wants(t, m, reads(low(c.Height), api.Vec{Len: c.Height}))
				}
				m.Tell(a)
			}
			wants(t, m, over(api.ErrBusy))
		}
	}
	// One less, and it goes on.
	for _, c := range both(1) {
		m := begin(t, c)
		for range api.MaxTries {
			m.Tell(no)
		}
		play(t, m, append(sought(1, low(1), ref(5, "1")), row{gets(ref(5, "1")), has("v")})...)
		wants(t, m, tells(5, "v"))
	}
}

// atGets is a reading that asks one QGet, found to the right of another one.
func atGets(t *testing.T, c api.ReadConf, p, x api.Ref) *Read {
	t.Helper()
	m := played(t, c, sought(c.Height, p, x))
	wants(t, m, gets(x))
	return m
}

// P17.1, at Get: AOK, not marked, with anything beside it: over, with the key's number, the value, and Found; of a Get, and of a Ceil.
func TestGetOK(t *testing.T) {
	long := strings.Repeat("v", 5000)
	for _, bits := range bitsOf {
		for _, c := range both(len(bits)) {
			for _, value := range []string{"", "v", "abc", "\x00\xff", long} {
				for _, a := range []api.Answer{has(value), {Kind: api.AOK, Value: []byte(value)}, {Kind: api.AOK, Value: []byte(value), Left: high(3), Right: low(3)}} {
					m := atGets(t, c, low(c.Height), ref(5, bits))
					m.Tell(a)
					wants(t, m, tells(5, value))
					if c.Ceil {
						m := atGets(t, c, low(c.Height), ref(8, bits))
						m.Tell(a)
						wants(t, m, tells(8, value))
					}
				}
			}
			m := atGets(t, c, low(c.Height), ref(5, bits))
			m.Tell(yes)
			wants(t, m, tells(5, ""))
		}
	}
}

// others are the answers to QGet by which nothing is found, but of the dead.
func others() []api.Answer {
	return append(answers(api.AOK, api.ADead), goes, filled(api.AOK))
}

// P17.1, at Get: any other answer, of a Get: over, with ErrAbsent alone.
func TestGetOther(t *testing.T) {
	for _, bits := range bitsOf {
		for _, a := range append(others(), dead, filled(api.ADead), will(ref(6, bits)), will(ref(5, bits))) {
			m := atGets(t, plain(len(bits), false), low(len(bits)), ref(5, bits))
			m.Tell(a)
			wants(t, m, over(api.ErrAbsent))
		}
	}
}

// P17.1, at Get: any other answer, of a Ceil, but of the dead: it waits, and behind a tick it begins again, from Start.
func TestCeilOther(t *testing.T) {
	for _, bits := range bitsOf {
		for _, start := range starts(len(bits)) {
			for _, a := range others() {
				c := plain(len(bits), true)
				c.Start = start
				for _, x := range []api.Ref{ref(5, bits), ref(8, bits)} {
					m := played(t, c, goDown(start, x), []row{{gets(x), a}})
					wants(t, m, waits())
					m.Wake()
					play(t, m, goDown(start, x)...)
					play(t, m, row{gets(x), has("v")})
					wants(t, m, tells(x.Key.N, "v"))
				}
			}
		}
	}
}

// P17.1, at Get and at Read: ADead, of a Ceil: the one to the left is asked QRead of the list of no bits, whatever the will says.
func TestCeilDead(t *testing.T) {
	for _, bits := range bitsOf {
		for _, p := range []api.Ref{low(len(bits)), ref(4, bits), {ID: -5, Key: at(3), Vec: v("1")}} {
			for _, x := range []api.Ref{ref(5, bits), ref(8, bits)} {
				for _, a := range []api.Answer{dead, filled(api.ADead), {Kind: api.ADead, Marked: true}, will(ref(9, bits)), will(high(len(bits))), will(low(0)), will(x)} {
					m := atGets(t, plain(len(bits), true), p, x)
					m.Tell(a)
					wants(t, m, reads(p, v("")))
				}
			}
		}
	}
}

// atReads is a Ceil of key 5 that asks 3 who stands to its right: 7 stood there, dead; by its will 9 is next.
func atReads(t *testing.T, height int) *Read {
	t.Helper()
	bits := strings.Repeat("1", height)
	m := played(t, plain(height, true), toRead(height, ref(3, bits), ref(7, bits), ref(9, bits)))
	wants(t, m, reads(ref(3, bits), v("")))
	return m
}

// P17.1, at Read: AOK, and another one stands to the right by now: that is asked QGet, if it is not below the key; its key's rank may be anyone's.
func TestReadAnother(t *testing.T) {
	for height := range 3 {
		for _, x := range []api.Ref{ref(5, "1"), ref(6, ""), ref(7, "01"), ref(8, ""), {ID: 0, Key: at(5)}, {ID: 13, Key: at(top)}, {ID: -1, Key: at(99), Vec: api.Vec{Len: 99}}, {ID: 7, Key: api.Key{Rank: 4, N: 3}}} {
			if x.ID == 17 {
				x.ID = 77 // not the dead one
			}
			m := atReads(t, height)
			play(t, m, row{reads(ref(3, strings.Repeat("1", height)), v("")), onRight(x)}, row{gets(x), has("v")})
			wants(t, m, tells(x.Key.N, "v"))
			// It is no other than one that the search found.
			for _, a := range others() {
				m := atReads(t, height)
				m.Tell(onRight(x))
				m.Tell(a)
				wants(t, m, waits())
			}
		}
	}
}

// P17.1, at Read: AOK, and the tail stands to the right by now: over, with ErrAbsent.
func TestReadTail(t *testing.T) {
	for height := range 3 {
		for _, x := range []api.Ref{high(0), high(height), {ID: 55, Key: highest}} {
			m := atReads(t, height)
			m.Tell(onRight(x))
			wants(t, m, over(api.ErrAbsent))
		}
	}
}

// P17.1, at Read: AOK, and who stands to the right is not above 3, or is below the key: it begins again, without a wait.
func TestReadBelow(t *testing.T) {
	l := []api.Ref{ref(4, ""), {ID: 55, Key: at(4)}, ref(3, ""), {ID: 55, Key: at(3)}, ref(2, ""), ref(0, ""), low(0), {}}
	for _, k := range wrongKeys() {
		if k.Rank < api.RAt {
			l = append(l, api.Ref{ID: 55, Key: k})
		}
	}
	for height := range 3 {
		for _, x := range l {
			m := atReads(t, height)
			m.Tell(onRight(x))
			wants(t, m, reads(low(height), api.Vec{Len: height}))
		}
	}
	// Of the head: only what has the key RLow, or less, is not above it.
	for _, x := range []api.Ref{low(0), {ID: 9, Key: lowest}, {ID: 9}, ref(0, ""), ref(4, "")} {
		m := played(t, plain(1, true), toRead(1, low(1), ref(7, "1"), ref(9, "1")))
		m.Tell(onRight(x))
		wants(t, m, reads(low(1), v("0")))
	}
}

// P17.1, at Read: any other answer: it begins again, without a wait.
func TestReadOther(t *testing.T) {
	for height := range 3 {
		for _, a := range append(answers(api.AOK), will(ref(8, ""))) {
			m := atReads(t, height)
			m.Tell(a)
			wants(t, m, reads(low(height), api.Vec{Len: height}))
		}
	}
}

// P17.1, at Read: AOK, marked or not: what counts is who stands to its right.
func TestReadMarked(t *testing.T) {
	m := atReads(t, 1)
	m.Tell(api.Answer{Kind: api.AOK, Marked: true, Left: ref(8, ""), Right: ref(6, ""), Value: []byte("v")})
	wants(t, m, gets(ref(6, "")))
}

// P17.1, at Read: wills lead on, over one dead peer behind the other, to the first one whose will is not kept; each time 3 is asked anew.
func TestWills(t *testing.T) {
	p, l := ref(3, "0"), []api.Ref{ref(5, "1"), ref(6, "0"), ref(8, "1"), ref(9, "1"), ref(12, "0"), high(1)}
	dying := func(n int) *Read {
		m := played(t, plain(1, true), sought(1, p, l[0]))
		for i := range n {
			play(t, m, row{gets(l[i]), will(l[i+1])}, row{reads(p, v("")), onRight(l[0])})
		}
		return m
	}
	for n := range 5 {
		m := dying(n)
		play(t, m, row{gets(l[n]), has("v")})
		wants(t, m, tells(l[n].Key.N, "v"))
	}
	wants(t, dying(5), over(api.ErrAbsent))
	// Somebody else stands to the right of 3 by now: one of the dead, one that came, one behind all.
	for _, c := range []struct{ right, next api.Ref }{{l[0], l[4]}, {l[1], l[4]}, {l[2], l[4]}, {l[3], l[4]}, {l[4], l[4]}, {ref(7, ""), ref(7, "")}, {ref(20, ""), ref(20, "")}} {
		m := dying(3)
		play(t, m, row{gets(l[3]), will(l[4])}, row{reads(p, v("")), onRight(c.right)})
		wants(t, m, gets(c.next))
	}
	m := dying(4)
	m.Tell(has("v"))
	wants(t, m, tells(12, "v"))
}

// P17.1, at Read: who is dead is told by the ID alone: as another one, of whatever key, it has that will, too; and another one of its key has not.
func TestWillsByID(t *testing.T) {
	for _, x := range []api.Ref{{ID: 17, Key: at(4)}, {ID: 17, Key: at(5), Vec: v("1")}, {ID: 17, Key: at(8)}} {
		m := atReads(t, 1)
		m.Tell(onRight(x))
		wants(t, m, gets(ref(9, "1")))
	}
	m := atReads(t, 1)
	m.Tell(onRight(api.Ref{ID: 18, Key: at(7), Vec: v("1")}))
	wants(t, m, gets(api.Ref{ID: 18, Key: at(7), Vec: v("1")}))
	// One of that ID that is the tail, or whose key is below the key, is no other.
	m = atReads(t, 1)
	m.Tell(onRight(api.Ref{ID: 17, Key: highest}))
	wants(t, m, reads(low(1), v("0")))
	m = played(t, plain(1, true), toRead(1, ref(3, "1"), ref(7, "1"), api.Ref{ID: 1, Key: api.Key{Rank: 4}}))
	m.Tell(onRight(api.Ref{ID: 17, Key: highest}))
	wants(t, m, gets(api.Ref{ID: 1, Key: api.Key{Rank: 4}}))
}

// P17.1, at Read: what a will leads to is not above the dead one: it begins again; at any of the steps.
func TestWillsFall(t *testing.T) {
	p, x, y := ref(3, "1"), ref(7, "1"), ref(9, "1")
	for _, behind := range []api.Ref{x, {ID: 18, Key: at(7)}, ref(6, ""), ref(5, ""), ref(4, ""), p, low(1), {}} {
		m := played(t, plain(1, true), toRead(1, p, x, behind), []row{{reads(p, v("")), onRight(x)}})
		wants(t, m, reads(low(1), v("0")))
		m = atReads(t, 1)
		play(t, m, row{reads(p, v("")), onRight(x)}, row{gets(y), will(behind)}, row{reads(p, v("")), onRight(x)})
		wants(t, m, reads(low(1), v("0")))
	}
	// A ring of the dead: it does not go round.
	m := atReads(t, 1)
	play(t, m, row{reads(p, v("")), onRight(x)}, row{gets(y), will(api.Ref{ID: 17, Key: at(10)})}, row{reads(p, v("")), onRight(x)})
	wants(t, m, reads(low(1), v("0")))
	// Above the dead one, and below the key: that is where a will is by an ID that had another key.
	m = played(t, plain(1, true), toRead(1, p, x, ref(9, "1")), []row{{reads(p, v("")), onRight(x)}, {gets(y), will(ref(11, ""))}})
	m.Tell(onRight(api.Ref{ID: 19, Key: at(4)}))
	wants(t, m, gets(ref(11, "")))
}

// P17.1, at Get and at Read: wills are kept, when it begins again: of all that were dead; a new will of one is in the place of the old one.
func TestWillsKept(t *testing.T) {
	h, p, x, y, z, end := low(1), ref(3, "1"), ref(7, "1"), ref(9, "1"), ref(12, "1"), high(1)
	again := func(m *Read) *Read {
		t.Helper()
		wants(t, m, reads(h, v("0")))
		return m
	}
	two := []row{{reads(p, v("")), onRight(x)}, {gets(y), will(z)}, {reads(p, v("")), no}}
	m := again(played(t, plain(1, true), toRead(1, p, x, y), two))
	// The search knows nothing of them: it finds the first one, which is asked again.
	play(t, m, toRead(1, p, x, y)...)
	play(t, m, row{reads(p, v("")), onRight(x)}, row{gets(z), has("v")})
	wants(t, m, tells(12, "v"))
	// Of another left side, behind a wait, and behind many beginnings.
	m = again(played(t, plain(1, true), toRead(1, p, x, y), two, often(9, toWait(1))))
	play(t, m, toRead(1, ref(4, "0"), ref(6, ""), x)...)
	play(t, m, row{reads(ref(4, "0"), v("")), onRight(ref(6, ""))}, row{gets(z), will(end)}, row{reads(ref(4, "0"), v("")), onRight(y)})
	wants(t, m, over(api.ErrAbsent))
	// The new one counts.
	m = again(played(t, plain(1, true), toRead(1, p, x, y), two))
	play(t, m, toRead(1, p, x, ref(8, ""))...)
	play(t, m, row{reads(p, v("")), onRight(x)})
	wants(t, m, gets(ref(8, "")))
	// What a search was told is not kept: it is no will of a Get.
	four := ref(4, "1")
	m = played(t, plain(0, true), []row{
		{reads(low(0), v("")), onRight(p)}, {reads(p, v("")), onRight(four)}, {reads(four, v("")), will(x)}, {reads(p, v("")), onRight(four)},
		{gets(x), will(y)}, {reads(p, v("")), onRight(four)},
	})
	wants(t, m, reads(low(0), v("")))
}

// tried are rows up to a beginning: it has begun again once more.
func tried(height int) [][]row {
	bits := strings.Repeat("1", height)
	p, x := ref(3, bits), ref(7, bits)
	read := toRead(height, p, x, ref(9, bits))
	low := toRead(height, p, x, ref(6, bits))
	return [][]row{
		toWait(height),
		append(rows(read), row{reads(p, v("")), no}),
		append(rows(read), row{reads(p, v("")), onRight(ref(4, ""))}),
		append(rows(read), row{reads(p, v("")), onRight(p)}),
		append(rows(low), row{reads(p, v("")), onRight(x)}),
	}
}

// P17.1: it begins again MaxTries times, whatever for, each time from Start, with a search that has all of its own tries; once more: over, with ErrBusy.
func TestTries(t *testing.T) {
	for height := range 3 {
		ways := tried(height)
		bits := strings.Repeat("1", height)
		x := ref(8, bits)
		for last, l := range ways {
			m := begin(t, plain(height, true))
			for n := range api.MaxTries {
				play(t, m, ways[(last+n)%len(ways)]...)
			}
			wants(t, m, reads(low(height), api.Vec{Len: height}))
			play(t, m, l...)
			wants(t, m, over(api.ErrBusy))
			m = played(t, plain(height, true), often(api.MaxTries, l), sought(height, low(height), x), []row{{gets(x), has("v")}})
			wants(t, m, tells(8, "v"))
			m = played(t, plain(height, true), often(api.MaxTries, l))
			for range api.MaxTries {
				m.Tell(gone)
				wants(t, m, reads(low(height), api.Vec{Len: height}))
			}
			play(t, m, append(sought(height, low(height), x), row{gets(x), will(high(0))}, row{reads(low(height), v("")), onRight(x)})...)
			wants(t, m, over(api.ErrAbsent))
		}
	}
}

// P17.1: a search's tries are not the reading's: those that ended count for nothing.
func TestTriesApart(t *testing.T) {
	m := begin(t, plain(1, true))
	for range 5 {
		for range api.MaxTries {
			m.Tell(no)
		}
		play(t, m, toWait(1)...)
	}
	wants(t, m, reads(low(1), v("0")))
	for range api.MaxTries + 1 {
		m.Tell(no)
	}
	wants(t, m, over(api.ErrBusy))
}

// P17.1: it begins again from Start, not from the head.
func TestAgainFromStart(t *testing.T) {
	for height := range 3 {
		for _, start := range starts(height) {
			c := plain(height, true)
			c.Start = start
			x := ref(7, "")
			m := played(t, c, goDown(start, x))
			left := m.left
			play(t, m, row{gets(x), will(ref(9, ""))}, row{reads(left, v("")), no})
			play(t, m, goDown(start, x)...)
			play(t, m, row{gets(x), has("v")})
			wants(t, m, tells(7, "v"))
		}
	}
}
