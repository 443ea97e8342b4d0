package scan

import (
	"math"
	"slices"
	"strings"
	"testing"

	"leapfrog/api"
)

// bitsOf are vectors of the heights at which most is tried.
var bitsOf = []string{"", "1", "10", "011"}

// starts are somebody to begin with, of a height: the ends, and peers below the low key, of it, and above it.
func starts(height int) []api.Ref {
	w := strings.Repeat("1", height)
	return []api.Ref{low(height), high(height), ref(3, w), ref(5, w), {ID: 99, Key: at(5), Vec: v(w)}, ref(8, w), ref(30, w), {ID: -3, Key: lowest, Vec: v(w)}}
}

// below tells whether a key stands ahead of another one.
func below(a, b api.Key) bool {
	return a.Rank < b.Rank || a.Rank == b.Rank && a.N < b.N
}

// goDown are the rows of a search from somebody, for a key above 4, which ends between one that is below that, and another one.
func goDown(start api.Ref, target api.Key, right api.Ref) []row {
	var l []row
	on := start
	if !below(start.Key, target) {
		// It goes to the left, in the list of all of Start's bits.
		on = ref(4, strings.Repeat("0", start.Vec.Len))
		l = append(l, row{reads(start, start.Vec), onLeft(on)})
	}
	for n := start.Vec.Len; n >= 0; n-- {
		l = append(l, row{reads(on, first(start.Vec, n)), onRight(right)})
	}
	return l
}

// confs are those from each of starts, of each height.
func confs() []api.ScanConf {
	var l []api.ScanConf
	for _, bits := range bitsOf {
		for _, start := range starts(len(bits)) {
			c := plain(len(bits))
			c.Start = start
			l = append(l, c)
		}
	}
	return l
}

// P18.2, P18.3: the search is from Start, to the low key; its Right, as it was told, is at hand, whatever its ID is: at High and below it, it is asked QGet.
func TestFound(t *testing.T) {
	for _, c := range confs() {
		bits := strings.Repeat("1", c.Height)
		for _, x := range []api.Ref{ref(5, bits), {ID: 0, Key: at(5), Vec: v(bits)}, {ID: -7, Key: at(6)}, {ID: math.MaxInt, Key: at(19), Vec: v("111")}, {ID: 1, Key: at(20), Vec: api.Vec{Len: -1}}} {
			m := played(t, c, goDown(c.Start, at(5), x))
			wants(t, m, gets(x))
			tried(t, m, 0)
		}
	}
}

// P18.3: who is at hand is above High, the tail or another one: over, with the items; of the search, and of QGet.
func TestAbove(t *testing.T) {
	for _, c := range confs() {
		bits := strings.Repeat("1", c.Height)
		for _, x := range []api.Ref{ref(21, bits), {ID: 15, Key: at(21)}, {ID: -1, Key: at(top), Vec: v("01")}, high(c.Height), {ID: 15, Key: highest}} {
			wants(t, played(t, c, goDown(c.Start, at(5), x)), tells())
		}
		wrongs := []api.Ref{{Key: api.Key{Rank: api.RHigh, N: 7}}, {Key: api.Key{Rank: 4}}, {ID: 9, Key: api.Key{Rank: math.MaxInt, N: 1}}, {ID: 1, Key: at(21), Vec: api.Vec{Len: 77}}}
		for _, x := range append(wrongs, ref(21, bits), high(c.Height), high(0)) {
			wants(t, played(t, c, goDown(c.Start, at(5), ref(7, bits)), []row{{gets(ref(7, bits)), has("v", x)}}), tells(item(7, "v")))
			wants(t, played(t, c, goDown(c.Start, at(5), ref(7, bits)), []row{{gets(ref(7, bits)), goes(x)}}), tells())
		}
	}
}

// P18.3: ranges of any two keys: whoever stands in them is told, and who stands beside them is not.
func TestAnyRange(t *testing.T) {
	edges := []uint64{0, 1, 7, 1 << 63, top - 1, top}
	for _, c := range []api.ScanConf{{Start: low(0)}, {Start: high(0)}} {
		for _, c.Low = range edges {
			for _, c.High = range edges {
				m := begin(t, c)
				if c.Start.Key == highest && c.Low <= c.High {
					play(t, m, row{reads(high(0), v("")), onLeft(low(0))})
				}
				var want []api.Item
				last := low(0)
				for _, k := range edges {
					x := api.Ref{ID: 50, Key: at(k)}
					switch {
					case c.Low > c.High:
					case k < c.Low:
						play(t, m, row{reads(last, v("")), onRight(x)})
					case len(want) == 0:
						play(t, m, row{reads(last, v("")), onRight(x)})
						fallthrough
					default:
						if k > c.High {
							break
						}
						wants(t, m, gets(x))
						want = append(want, item(k, "v"))
						next := high(0)
						if i := slices.Index(edges, k); i+1 < len(edges) {
							next = api.Ref{ID: 50, Key: at(edges[i+1])}
						}
						m.Tell(has("v", next))
					}
					last = x
				}
				wants(t, m, tells(want...))
			}
		}
	}
}

// P18.2: a search that is over with ErrBusy: over, with that, and without items, behind as many answers of any kind that let it begin again; of the first search, and of a later one.
func TestSearchBusy(t *testing.T) {
	for _, c := range confs() {
		for _, a := range append(answers(api.AOK), onRight(api.Ref{}), onRight(low(0))) {
			x := ref(6, strings.Repeat("1", c.Height))
			for _, m := range []*Scan{begin(t, c), played(t, c, goDown(c.Start, at(5), x), []row{{gets(x), has("v", low(0))}})} {
				tries := m.Tries()
				for n := range api.MaxTries + 1 {
					if n > 0 {
						wants(t, m, reads(low(c.Height), api.Vec{Len: c.Height}))
					}
					m.Tell(a)
				}
				wants(t, m, over(api.ErrBusy))
				tried(t, m, tries)
			}
		}
	}
	// One less, and it goes on.
	for height := range 3 {
		m := begin(t, plain(height))
		for range api.MaxTries {
			m.Tell(no)
		}
		play(t, m, append(sought(height, low(height), ref(5, "1")), row{gets(ref(5, "1")), has("v", high(0))})...)
		wants(t, m, tells(item(5, "v")))
		tried(t, m, 0)
	}
}

// atGets is a scan from the head that asks one QGet, found to the right of another one.
func atGets(t *testing.T, height int, p, x api.Ref) *Scan {
	t.Helper()
	m := played(t, plain(height), sought(height, p, x))
	wants(t, m, gets(x))
	return m
}

// P18.3: AOK, not marked, and one above stands to the right: its key with the value is an item, and that one is at hand, whatever else it is.
func TestGetOK(t *testing.T) {
	long := strings.Repeat("v", 5000)
	for _, bits := range bitsOf {
		h := len(bits)
		for _, value := range []string{"", "v", "abc", "\x00\xff", long} {
			for _, y := range []api.Ref{ref(9, bits), {ID: 18, Key: at(9), Vec: v("1")}, {ID: 0, Key: at(20)}, {ID: -1, Key: at(19), Vec: api.Vec{Len: 99}}} {
				for _, a := range []api.Answer{has(value, y), {Kind: api.AOK, Right: y, Value: []byte(value)}, {Kind: api.AOK, Right: y, Value: []byte(value), Left: high(3)}} {
					m := atGets(t, h, low(h), ref(8, bits))
					m.Tell(a)
					play(t, m, row{gets(y), has("last", high(h))})
					wants(t, m, tells(item(8, value), item(y.Key.N, "last")))
					tried(t, m, 0)
				}
			}
		}
	}
}

// P18.3: AOK, and marked: no item; it goes on to whom stands to the right all the same.
func TestGetMarked(t *testing.T) {
	for _, bits := range bitsOf {
		h := len(bits)
		x, y, z := ref(8, bits), ref(9, bits), ref(15, bits)
		m := atGets(t, h, low(h), x)
		play(t, m, row{gets(x), goes(y)}, row{gets(y), has("v", z)}, row{gets(z), goes(high(h))})
		wants(t, m, tells(item(9, "v")))
		m = atGets(t, h, ref(3, bits), x)
		play(t, m, row{gets(x), has("v", y)}, row{gets(y), goes(z)}, row{gets(z), has("w", high(h))})
		wants(t, m, tells(item(8, "v"), item(15, "w")))
	}
}

// notAbove are such to the right as do not stand above one of a key.
func notAbove(k uint64) []api.Ref {
	l := []api.Ref{{ID: 55, Key: at(k)}, {ID: 55, Key: at(k - 1)}, ref(4, "1"), ref(0, ""), low(0), {}}
	for _, k := range wrongKeys() {
		if k.Rank < api.RAt {
			l = append(l, api.Ref{ID: 55, Key: k})
		}
	}
	return l
}

// P18.3: AOK, and who stands to the right is not above it: it seeks again, at once, from Start, from the key behind it on; marked or not.
func TestGetNotAbove(t *testing.T) {
	for _, c := range confs() {
		bits := strings.Repeat("1", c.Height)
		x, y := ref(8, bits), ref(9, bits)
		for _, r := range notAbove(8) {
			m := played(t, c, goDown(c.Start, at(5), x), []row{{gets(x), has("v", r)}})
			tried(t, m, 1)
			play(t, m, goDown(c.Start, at(9), y)...)
			play(t, m, row{gets(y), has("w", high(0))})
			wants(t, m, tells(item(8, "v"), item(9, "w")))
			m = played(t, c, goDown(c.Start, at(5), x), []row{{gets(x), goes(r)}}, goDown(c.Start, at(9), y), []row{{gets(y), has("w", high(0))}})
			wants(t, m, tells(item(9, "w")))
			tried(t, m, 1)
		}
	}
}

// P18.3: the key from which on it seeks is the next one behind who was told last, marked or not, found by the search or not: who has that is found, and who is there no more is passed.
func TestFrom(t *testing.T) {
	for _, k := range []uint64{0, 1, 7, 1<<63 - 1, 1 << 63, top - 1} {
		for _, marked := range []bool{false, true} {
			for _, ahead := range []bool{false, true} {
				c := api.ScanConf{Start: low(0), High: top}
				x, y, z := api.Ref{ID: 50, Key: at(k)}, api.Ref{ID: 51, Key: at(k + 1)}, api.Ref{ID: 49, Key: at(0)}
				m := begin(t, c)
				var want []api.Item
				if ahead && k > 0 {
					play(t, m, row{reads(low(0), v("")), onRight(z)}, row{gets(z), has("z", x)})
					want = append(want, item(0, "z"))
				} else {
					play(t, m, row{reads(low(0), v("")), onRight(x)})
				}
				a := has("x", x)
				if a.Marked = marked; !marked {
					want = append(want, item(k, "x"))
				}
				play(t, m, row{gets(x), a})
				// It looks at x, for that is below the key now, and at y it does not.
				play(t, m, row{reads(low(0), v("")), onRight(x)}, row{reads(x, v("")), onRight(y)}, row{gets(y), has("y", high(0))})
				wants(t, m, tells(append(want, item(k+1, "y"))...))
			}
		}
	}
}

// P18.3: a wait lets the key from which on be: who did not answer AOK is asked again, and one that came ahead of it, and is above the last one told, is told.
func TestFromStays(t *testing.T) {
	for _, a := range []api.Answer{no, gone, will(ref(15, ""))} {
		x, between, y := ref(8, ""), ref(9, ""), ref(12, "")
		m := atGets(t, 0, low(0), x)
		play(t, m, row{gets(x), has("x", y)}, row{gets(y), a}, tick)
		play(t, m, row{reads(low(0), v("")), onRight(between)}, row{gets(between), has("b", y)}, row{gets(y), has("y", high(0))})
		wants(t, m, tells(item(8, "x"), item(9, "b"), item(12, "y")))
	}
	// From the beginning on: one that came at the low key.
	m := atGets(t, 0, low(0), ref(8, ""))
	play(t, m, row{gets(ref(8, "")), gone}, tick, row{reads(low(0), v("")), onRight(ref(4, ""))}, row{reads(ref(4, ""), v("")), onRight(ref(5, ""))}, row{gets(ref(5, "")), has("v", high(0))})
	wants(t, m, tells(item(5, "v")))
}

// P18.3: behind the greatest key there is the tail alone: it seeks that, if who has that key tells nobody above it.
func TestFromGreatest(t *testing.T) {
	x := api.Ref{ID: 50, Key: at(top), Vec: v("1")}
	c := api.ScanConf{Height: 1, Start: low(1), Low: 5, High: top}
	for _, r := range []api.Ref{x, low(1), ref(9, "1"), {}} {
		for _, marked := range []bool{false, true} {
			a := has("v", r)
			want := tells(item(top, "v"))
			if a.Marked = marked; marked {
				want = tells()
			}
			m := played(t, c, sought(1, low(1), x), []row{{gets(x), a}})
			tried(t, m, 1)
			// It stands on x, as on any that is below the tail.
			play(t, m, row{reads(low(1), v("0")), onRight(high(1))}, row{reads(low(1), v("")), onRight(x)}, row{reads(x, v("")), onRight(high(1))})
			wants(t, m, want)
			tried(t, m, 1)
			m = played(t, c, sought(1, low(1), x), []row{{gets(x), a}}, sought(1, low(1), high(1)))
			wants(t, m, want)
		}
	}
	for _, r := range []api.Ref{high(1), high(0), {ID: 9, Key: api.Key{Rank: 4}}} {
		wants(t, played(t, c, sought(1, low(1), x), []row{{gets(x), has("v", r)}}), tells(item(top, "v")))
	}
}

// P18.3: ADead of whom the search found: the search reads who is to the left of it again, and goes on over it by its will; this is not seeking again.
func TestDead(t *testing.T) {
	for _, c := range confs() {
		bits := strings.Repeat("1", c.Height)
		x, y, z := ref(5, bits), ref(8, bits), ref(9, bits)
		way := goDown(c.Start, at(5), x)
		last := way[len(way)-1]
		m := played(t, c, way, []row{{gets(x), will(y)}, last, {gets(y), will(z)}, last, {gets(z), has("v", high(0))}})
		wants(t, m, tells(item(9, "v")))
		tried(t, m, 0)
		// Somebody else stands there by now; or nobody.
		m = played(t, c, way, []row{{gets(x), will(y)}, {last.want, onRight(ref(7, bits))}, {gets(ref(7, bits)), has("v", high(0))}})
		wants(t, m, tells(item(7, "v")))
		for _, end := range []api.Ref{high(c.Height), ref(21, bits)} {
			wants(t, played(t, c, way, []row{{gets(x), will(end)}, last}), tells())
			wants(t, played(t, c, way, []row{{gets(x), will(y)}, {last.want, onRight(end)}}), tells())
		}
		// What a will leads to is not above the dead one: the search begins again, from the head.
		for _, r := range []api.Ref{x, {ID: 77, Key: at(5)}, ref(4, bits), {}} {
			m := played(t, c, way, []row{{gets(x), will(r)}, last})
			wants(t, m, reads(low(c.Height), api.Vec{Len: c.Height}))
			tried(t, m, 0)
		}
	}
}

// P18.3: ADead, with anything beside it, of whom the search found: by its Right alone.
func TestDeadFilled(t *testing.T) {
	for _, a := range []api.Answer{filled(api.ADead), {Kind: api.ADead, Marked: true, Right: ref(9, "")}, {Kind: api.ADead, Left: high(0), Right: ref(9, ""), Value: []byte("v")}} {
		m := atGets(t, 1, ref(3, "1"), ref(5, "1"))
		m.Tell(a)
		play(t, m, row{reads(ref(3, "1"), v("")), onRight(ref(5, "1"))})
		if a.Right.Key == at(9) {
			wants(t, m, gets(ref(9, "")))
		} else {
			wants(t, m, tells())
		}
	}
}

// P18.2, P18.3: each of the dead counts as one more beginning of the search: behind MaxTries times it is busy, and so is the scan.
func TestDeadBusy(t *testing.T) {
	for height := range 3 {
		for begun := range 3 {
			c := plain(height)
			c.High = 1000
			m := begin(t, c)
			for range begun {
				m.Tell(no)
			}
			play(t, m, sought(height, low(height), ref(5, ""))...)
			for n := range uint64(api.MaxTries - begun) {
				play(t, m, row{gets(ref(5+n, "")), will(ref(6+n, ""))}, row{reads(low(height), v("")), onRight(ref(5, ""))})
			}
			x := ref(5+uint64(api.MaxTries-begun), "")
			wants(t, m, gets(x))
			m.Tell(will(high(height)))
			wants(t, m, over(api.ErrBusy))
			tried(t, m, 0)
		}
	}
}

// P18.3: ADead of one that stood to the right of another one, marked or not: it waits; having sought again, the search finds it, and goes over it.
func TestDeadNext(t *testing.T) {
	for _, bits := range bitsOf {
		h := len(bits)
		x, y, z := ref(8, bits), ref(9, bits), ref(15, bits)
		for _, a := range []api.Answer{has("v", y), goes(y)} {
			for _, b := range []api.Answer{will(z), dead, filled(api.ADead)} {
				m := atGets(t, h, low(h), x)
				play(t, m, row{gets(x), a}, row{gets(y), b}, tick)
				tried(t, m, 1)
				play(t, m, sought(h, x, y)...)
				play(t, m, row{gets(y), will(z)}, row{reads(x, v("")), onRight(y)}, row{gets(z), has("w", high(h))})
				tried(t, m, 1)
				if a.Marked {
					wants(t, m, tells(item(15, "w")))
				} else {
					wants(t, m, tells(item(8, "v"), item(15, "w")))
				}
			}
		}
		// The search found y, behind the dead x: behind its answer z is not the search's.
		m := atGets(t, h, low(h), x)
		play(t, m, row{gets(x), will(y)}, row{reads(low(h), v("")), onRight(x)}, row{gets(y), has("v", z)}, row{gets(z), will(high(h))})
		wants(t, m, waits())
	}
}

// P18.3: any other answer, and AOK is none of those: it waits; behind a tick it seeks again, from Start; of whom the search found, and of others.
func TestOther(t *testing.T) {
	for _, c := range confs() {
		bits := strings.Repeat("1", c.Height)
		x, y := ref(8, bits), ref(9, bits)
		for _, a := range answers(api.AOK, api.ADead) {
			m := played(t, c, goDown(c.Start, at(5), x), []row{{gets(x), a}})
			wants(t, m, waits())
			tried(t, m, 0)
			play(t, m, tick)
			tried(t, m, 1)
			play(t, m, goDown(c.Start, at(5), x)...)
			play(t, m, row{gets(x), has("v", y)}, row{gets(y), a}, tick)
			play(t, m, goDown(c.Start, at(9), y)...)
			play(t, m, row{gets(y), has("w", high(0))})
			wants(t, m, tells(item(8, "v"), item(9, "w")))
			tried(t, m, 2)
		}
	}
}

// P18.3: the wills that a search was told are its own: a new search knows none of them.
func TestWillsGone(t *testing.T) {
	x, y := ref(8, ""), ref(9, "")
	m := atGets(t, 0, low(0), x)
	play(t, m, row{gets(x), will(y)}, row{reads(low(0), v("")), onRight(x)}, row{gets(y), no}, tick)
	play(t, m, row{reads(low(0), v("")), onRight(x)}, row{gets(x), has("v", high(0))})
	wants(t, m, tells(item(8, "v")))
}

// many are scans that were told so many items, with marked ones between, and ask one more.
func many(t *testing.T, n uint64) *Scan {
	t.Helper()
	m := played(t, api.ScanConf{Start: low(0), High: 999}, sought(0, low(0), ref(0, "")))
	for i := range n {
		play(t, m, row{gets(ref(2*i, "")), has("v", ref(2*i+1, ""))}, row{gets(ref(2*i+1, "")), goes(ref(2*i+2, ""))})
	}
	wants(t, m, gets(ref(2*n, "")))
	return m
}

// P18.3: MaxRange items may be; one more: over, with ErrLarge, without items; marked ones do not count, nor do waits.
func TestLarge(t *testing.T) {
	var all []api.Item
	for i := range uint64(api.MaxRange) {
		all = append(all, item(2*i, "v"))
	}
	next := ref(2*api.MaxRange, "")
	for _, a := range []api.Answer{has("v", high(0)), has("", next), has("v", ref(5, "")), has("v", ref(2*api.MaxRange+1, ""))} {
		m := many(t, api.MaxRange)
		m.Tell(a)
		wants(t, m, over(api.ErrLarge))
		tried(t, m, 0)
		m = many(t, api.MaxRange-1)
		m.Tell(has("v", high(0)))
		wants(t, m, tells(all...))
		m = many(t, api.MaxRange)
		play(t, m, row{gets(next), gone}, tick, row{reads(low(0), v("")), onRight(next)}, row{gets(next), a})
		wants(t, m, over(api.ErrLarge))
		tried(t, m, 1)
	}
	m := many(t, api.MaxRange)
	m.Tell(goes(high(0)))
	wants(t, m, tells(all...))
	m = many(t, api.MaxRange)
	play(t, m, row{gets(next), gone}, tick, row{reads(low(0), v("")), onRight(high(0))})
	wants(t, m, tells(all...))
	m = many(t, api.MaxRange)
	play(t, m, row{gets(next), goes(ref(1000, ""))})
	wants(t, m, tells(all...))
}

// again are rows by which it seeks once more, with nothing told.
func again(height int) [][]row {
	bits := strings.Repeat("1", height)
	x, y := ref(7, bits), ref(9, bits)
	return [][]row{
		toWait(height),
		append(sought(height, ref(3, bits), x), row{gets(x), gone}, tick),
		append(sought(height, low(height), x), row{gets(x), will(y)}, row{reads(low(height), v("")), onRight(x)}, row{gets(y), no}, tick),
	}
}

// P18.3: it seeks again MaxTries times, whatever for, each time with a search that has all of its own tries; once more: over, with ErrBusy, without items.
func TestTries(t *testing.T) {
	for height := range 3 {
		for last, l := range again(height) {
			m := begin(t, plain(height))
			for n := range api.MaxTries {
				tried(t, m, n)
				play(t, m, again(height)[(last+n)%3]...)
			}
			tried(t, m, api.MaxTries)
			wants(t, m, reads(low(height), api.Vec{Len: height}))
			play(t, m, l...)
			wants(t, m, over(api.ErrBusy))
			tried(t, m, api.MaxTries)
			x := ref(8, strings.Repeat("1", height))
			m = played(t, plain(height), often(api.MaxTries, l))
			for range api.MaxTries {
				m.Tell(gone)
				wants(t, m, reads(low(height), api.Vec{Len: height}))
			}
			play(t, m, append(sought(height, low(height), x), row{gets(x), has("v", high(0))})...)
			wants(t, m, tells(item(8, "v")))
			tried(t, m, api.MaxTries)
		}
	}
}

// P18.3: what does not rise counts as well, with items told between, which are told by no error.
func TestTriesByFalls(t *testing.T) {
	fall := func(most int) *Scan {
		m := begin(t, api.ScanConf{Start: low(0), High: 999})
		for n := range uint64(most) {
			x := ref(n, "")
			a := goes(x)
			if a.Marked = n%2 > 0; !a.Marked {
				a = has("v", x)
			}
			play(t, m, row{reads(low(0), v("")), onRight(x)}, row{gets(x), a})
		}
		return m
	}
	m := fall(api.MaxTries)
	tried(t, m, api.MaxTries)
	wants(t, m, reads(low(0), v("")))
	m.Tell(onRight(high(0)))
	x := m.Next()
	if tried(t, m, api.MaxTries); x.Kind != api.SDone || x.Result.E != api.OK || len(x.Result.Items) != api.MaxTries/2 {
		t.Error(x)
	}
	m = fall(api.MaxTries + 1)
	wants(t, m, over(api.ErrBusy))
	tried(t, m, api.MaxTries)
	// The last search found one, and from there on it goes right as far as it may.
	m = fall(api.MaxTries)
	play(t, m, row{reads(low(0), v("")), onRight(ref(70, ""))}, row{gets(ref(70, "")), goes(ref(80, ""))}, row{gets(ref(80, "")), goes(high(0))})
	if x := m.Next(); x.Kind != api.SDone || len(x.Result.Items) != api.MaxTries/2 {
		t.Error(x)
	}
}

// P18.3: a search's tries are not the scan's.
func TestTriesApart(t *testing.T) {
	m := begin(t, plain(1))
	for n := range 5 {
		for range api.MaxTries {
			m.Tell(no)
		}
		tried(t, m, n)
		play(t, m, toWait(1)...)
	}
	wants(t, m, reads(low(1), v("0")))
	for range api.MaxTries + 1 {
		m.Tell(no)
	}
	wants(t, m, over(api.ErrBusy))
	tried(t, m, 5)
}
