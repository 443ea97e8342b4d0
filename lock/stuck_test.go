package lock

import (
	"fmt"
	"math"
	"slices"
	"testing"

	"leapfrog/api"
)

func holds(o api.Owner, place int) api.Claim { return api.Claim{Owner: o, Place: place, Held: true} }
func waits(o api.Owner, place int) api.Claim { return api.Claim{Owner: o, Place: place} }

// turned are claims in the order the other way round.
func turned(l []api.Claim) []api.Claim {
	back := slices.Clone(l)
	slices.Reverse(back)
	return back
}

// with are claims and others; without are claims but those of which something is so. Both are in a row of their own.
func with(l []api.Claim, others ...api.Claim) []api.Claim {
	return slices.Concat(l, others)
}

func without(l []api.Claim, is func(x api.Claim) bool) []api.Claim {
	return slices.DeleteFunc(slices.Clone(l), is)
}

// stucks holds who is stuck, in whichever order the claims are told, and if all are told twice.
func stucks(t *testing.T, l []api.Claim, want ...api.Owner) {
	t.Helper()
	orders := [][]api.Claim{l, turned(l)}
	if 2*len(l) <= 4096 {
		orders = append(orders, slices.Concat(l, l), slices.Concat(l, turned(l)))
	}
	for _, x := range orders {
		if got, e := Stuck(x...); !slices.Equal(got, want) || e != api.OK {
			t.Errorf("Stuck(%.300s) = %.300s, %d; not %.300s", fmt.Sprint(x), fmt.Sprint(got), e, fmt.Sprint(want))
		}
	}
}

// nth are many owners, by numbers.
func nth(i int) api.Owner { return own(i%1024, 1+i/1024) }

// waitsOn are claims of owners of which each holds the place of its number and waits for the next one's.
func waitsOn(n int) []api.Claim {
	var l []api.Claim
	for i := range n {
		l = append(l, holds(nth(i), i), waits(nth(i), i+1))
	}
	return l
}

// P7.4: those that wait for nothing, or for what nobody holds.
func TestNobodyStuck(t *testing.T) {
	stucks(t, nil)
	stucks(t, []api.Claim{})
	stucks(t, []api.Claim{holds(a, 1)})
	stucks(t, []api.Claim{waits(a, 1)})
	stucks(t, []api.Claim{waits(a, 1), waits(b, 1), waits(c, 1), waits(a, 2), waits(b, 2)})
	stucks(t, []api.Claim{holds(a, 1), holds(b, 1), holds(a, 2), holds(c, 3)})
	stucks(t, []api.Claim{holds(a, 1), waits(b, 1), waits(c, 1), holds(c, 2), waits(b, 2)})
}

// P7.4: rings of every length, and those that wait for them, near and far.
func TestRings(t *testing.T) {
	stucks(t, []api.Claim{holds(a, 1), waits(a, 2), holds(b, 2), waits(b, 1)}, a, b)
	stucks(t, []api.Claim{holds(a, 1), waits(a, 2), holds(b, 2), waits(b, 1), waits(c, 2)}, a, c, b)
	stucks(t, []api.Claim{holds(b, 1), waits(b, 2), holds(c, 2), waits(c, 3), holds(d, 3), waits(d, 1), holds(a, 4)}, c, b, d)
	// d waits for c, which waits for the ring.
	stucks(t, []api.Claim{holds(a, 1), waits(a, 2), holds(b, 2), waits(b, 1), holds(c, 3), waits(c, 1), waits(d, 3)}, a, c, b, d)
	// The ring waits for d, which is no part of it and goes on.
	stucks(t, []api.Claim{holds(a, 1), waits(a, 2), holds(b, 2), waits(b, 1), waits(a, 3), waits(b, 3), holds(d, 3)}, a, b)
	// b waits for nobody, and a for b alone.
	stucks(t, []api.Claim{holds(a, 1), waits(a, 2), holds(b, 2), waits(c, 1), waits(c, 2)})
}

// P7.4: one that waits for many is stuck by one of them.
func TestOneOfMany(t *testing.T) {
	ring := []api.Claim{holds(a, 1), waits(a, 2), holds(b, 2), waits(b, 1)}
	stucks(t, with(ring, holds(d, 3), waits(c, 3), waits(c, 4), waits(c, 2)), a, c, b)
	stucks(t, with(ring, holds(d, 3), waits(c, 3), waits(c, 4)), a, b)
	stucks(t, with(ring, waits(c, 1), waits(c, 2), holds(c, 9), waits(d, 9), waits(d, 8)), a, c, b, d)
}

// P7.4: nobody is in one's own way.
func TestOwnPlace(t *testing.T) {
	stucks(t, []api.Claim{holds(a, 1), waits(a, 1)})
	stucks(t, []api.Claim{holds(a, 1), waits(a, 1), waits(b, 1), holds(b, 2), waits(b, 2)})
	// It waits for what it holds, and is in a ring by another place.
	stucks(t, []api.Claim{holds(a, 1), waits(a, 1), waits(a, 2), holds(b, 2), waits(b, 1)}, a, b)
	// Two hold one place and wait for it: each waits for the other.
	stucks(t, []api.Claim{holds(a, 1), waits(a, 1), holds(b, 1), waits(b, 1)}, a, b)
	stucks(t, []api.Claim{holds(a, 1), waits(a, 1), holds(b, 1)})
	// b goes on by d, then a.
	stucks(t, []api.Claim{holds(a, 1), waits(a, 1), holds(b, 1), waits(b, 2), holds(d, 2), waits(c, 1)})
}

// P7.4: a place that many hold is waited for in vain, if one of them is stuck.
func TestManyHold(t *testing.T) {
	ring := []api.Claim{holds(a, 1), waits(a, 2), holds(b, 2), waits(b, 1)}
	stucks(t, with(ring, holds(b, 5), holds(d, 5), waits(c, 5)), a, c, b)
	stucks(t, with(ring, holds(c, 5), holds(d, 5), waits(own(2, 2), 5)), a, b)
	stucks(t, with(ring, holds(a, 5), holds(c, 5), waits(c, 5)), a, c, b)
	stucks(t, with(ring, holds(a, 5), holds(c, 5), waits(d, 6), holds(c, 6)), a, b)
	var l []api.Claim
	for i, o := range crowd(60) {
		l = append(l, holds(o, 0), waits(o, i), holds(o, i+1))
	}
	// The first waits for place 0, that all hold, the second for the first, and so on.
	stucks(t, l, owners(l)...)
	// All the others hold it no more: then it is its own alone.
	stucks(t, without(l, func(x api.Claim) bool { return x.Held && x.Place == 0 && x.Owner != crowd(1)[0] }))
}

// P7.4: places are any numbers, and owners are told apart by both of their parts.
func TestPlacesAndOwners(t *testing.T) {
	places := []int{math.MinInt, -1, 0, 1, 1 << 32, math.MaxInt}
	for _, p := range places {
		for _, q := range places {
			l := []api.Claim{holds(a, p), waits(a, q), holds(d, q), waits(d, p)}
			stucks(t, l, a, d)
			if p != q {
				stucks(t, []api.Claim{holds(a, p), waits(b, q), holds(b, p), waits(a, q)})
			}
		}
	}
	x, y, z := own(1, 2), own(2, 1), own(1, 1)
	stucks(t, []api.Claim{holds(x, 1), waits(x, 2), holds(y, 2), waits(z, 1)})
	stucks(t, []api.Claim{holds(x, 1), waits(x, 2), holds(y, 2), waits(y, 1), holds(z, 2)}, x, y)
}

// P7.4: the stuck ones come by their agents, then by their operations.
func TestStuckOrder(t *testing.T) {
	var want []api.Owner
	var l []api.Claim
	for _, o := range rightOwners() {
		l = append(l, holds(o, 1), waits(o, 1))
	}
	for _, agent := range []int{0, 1, 15, 16, 512, 1022, 1023} {
		for _, op := range []int{1, 2, 64, 65536, 1073741823, 1073741824} {
			want = append(want, own(agent, op))
		}
	}
	stucks(t, l, want...)
	for i := range l {
		k := i * 31 % len(l)
		l[i], l[k] = l[k], l[i]
	}
	stucks(t, l, want...)
}

// P7.4: an owner that may not be, wherever it is told, that comes ahead of too many claims.
func TestStuckWrong(t *testing.T) {
	for _, n := range []int{0, 1, 2047, 2048, 2049} {
		l := waitsOn(n)
		for i, o := range append(wrongOwners(), api.Owner{}) {
			x := waits(o, 1)
			x.Held = i%2 > 0
			for _, at := range []int{0, n, 2 * n} {
				got, e := Stuck(slices.Insert(slices.Clone(l), at, x)...)
				if len(got) != 0 || e != 70 {
					t.Errorf("Stuck with %v at %d of %d = %v, %d", x, at, 2*n, got, e)
				}
			}
		}
	}
}

// P7.4: 4096 claims, and one more, even if they are told twice.
func TestStuckMany(t *testing.T) {
	l := with(waitsOn(2047), holds(nth(2047), 2047), waits(nth(2047), 0))
	got, e := Stuck(l...)
	if len(l) != 4096 || len(got) != 2048 || e != api.OK {
		t.Errorf("Stuck of %d = %d, %d", len(l), len(got), e)
	}
	for _, x := range []api.Claim{l[0], l[4095], holds(d, 7), waits(d, -7)} {
		if got, e := Stuck(with(l, x)...); len(got) != 0 || e != 3 {
			t.Errorf("Stuck of one more = %v, %d", got, e)
		}
	}
	same := slices.Repeat([]api.Claim{holds(a, 1)}, 4097)
	if got, e := Stuck(same...); len(got) != 0 || e != 3 {
		t.Errorf("Stuck of one, 4097 times = %v, %d", got, e)
	}
	if got, e := Stuck(same[1:]...); len(got) != 0 || e != api.OK {
		t.Errorf("Stuck of one, 4096 times = %v, %d", got, e)
	}
}

// P7.4: long rows in which each waits for the next are served from their end on, and stuck if that is.
func TestLongRows(t *testing.T) {
	stucks(t, with(waitsOn(1), holds(nth(0), 1)))
	for _, n := range []int{2, 3, 500, 2046, 2047} {
		l := waitsOn(n)
		stucks(t, l)
		stucks(t, with(l, holds(nth(0), n)), owners(l)...)
	}
	// The second half of the row is a ring, for which the first half waits, or does not.
	l := with(waitsOn(2000), holds(nth(1000), 2000))
	stucks(t, l, owners(l)...)
	apart := without(l, func(x api.Claim) bool { return x == waits(nth(999), 1000) })
	stucks(t, apart, owners(l[2000:])...)
	// One that is not there any more lets all that wait for it go on, however far.
	gone := without(l, func(x api.Claim) bool { return x.Owner == nth(1500) })
	stucks(t, gone)
}

// P7.4: many that hold one place, or wait for it, and one that holds many, or waits for them.
func TestManyAtOnce(t *testing.T) {
	one := own(0, 1<<30)
	var crossed, in, out []api.Claim
	for i := range 2047 {
		crossed = append(crossed, holds(nth(i), 0), waits(nth(i+2048), 0))
		in = append(in, holds(nth(i), i), waits(one, i))
		out = append(out, holds(one, i), waits(nth(i), i))
	}
	for _, l := range [][]api.Claim{crossed, in, out} {
		stucks(t, l)
	}
	// Of those that hold place 0 one is in a ring, and with it all that wait there.
	ring := []api.Claim{waits(nth(5), 1), holds(nth(2050), 1)}
	held := func(x api.Claim) bool { return x.Held }
	stucks(t, with(crossed, ring...), owners(without(with(crossed, ring...), held))...)
	stucks(t, with(in, holds(one, -1), waits(nth(1024), -1)), nth(1024), one)
	stucks(t, with(out, waits(one, -1), holds(nth(1024), -1)), owners(out)...)
}

// plainStuck is who is stuck, formed from below as the document tells it.
func plainStuck(l []api.Claim) []api.Owner {
	served := map[api.Owner]bool{}
	goesOn := func(o api.Owner) bool {
		for _, x := range l {
			for _, y := range l {
				if x.Owner == o && !x.Held && y.Held && y.Place == x.Place && y.Owner != o && !served[y.Owner] {
					return false
				}
			}
		}
		return true
	}
	for range l {
		for _, x := range l {
			if goesOn(x.Owner) {
				served[x.Owner] = true
			}
		}
	}
	var stuck []api.Owner
	for agent := range 4 {
		for op := 1; op <= 4; op++ {
			o := own(agent, op)
			if !served[o] && slices.ContainsFunc(l, func(x api.Claim) bool { return x.Owner == o }) {
				stuck = append(stuck, o)
			}
		}
	}
	return stuck
}

// drawn are claims, two bytes each, of at most so many owners and places.
func drawn(b []byte, many, places int) []api.Claim {
	var l []api.Claim
	for i := 0; i+2 <= len(b); i += 2 {
		k := int(b[i]) % many
		l = append(l, api.Claim{Owner: own(k%4, 1+k/4), Place: int(b[i+1]>>1)%places - 2, Held: b[i+1]&1 > 0})
	}
	return l
}

// P7.4: claims of many kinds, held against what the document tells.
func TestStuckDrawn(t *testing.T) {
	none, some, all := 0, 0, 0
	for seed := range uint64(3000) {
		l := drawn(row(2*(1+int(seed)%37), seed), 2+int(seed/37)%15, 1+int(seed/7)%29)
		want := plainStuck(l)
		stucks(t, l, want...)
		switch len(want) {
		case 0:
			none++
		case len(owners(l)):
			all++
		default:
			some++
		}
	}
	if none < 100 || some < 100 || all < 100 {
		t.Errorf("nobody is stuck in %d, some in %d, all in %d", none, some, all)
	}
}

// P7.6: if each waits only above all that it holds, and no place is held by two, nobody is stuck.
func TestNoDeadlock(t *testing.T) {
	waiting := 0
	for seed := range uint64(2000) {
		b := row(200, seed)
		many := 2 + int(seed)%15
		highest, taken := map[api.Owner]int{}, map[int]bool{}
		var l []api.Claim
		for _, x := range drawn(b, many, 30) {
			if x.Held && !taken[x.Place] {
				taken[x.Place] = true
				highest[x.Owner] = max(highest[x.Owner], x.Place)
				l = append(l, x)
			}
		}
		for _, x := range drawn(b, many, 30) {
			if x.Place > highest[x.Owner] {
				x.Held = false
				l = append(l, x)
				waiting++
			}
		}
		stucks(t, l)
	}
	if waiting < 2000 {
		t.Errorf("only %d wait", waiting)
	}
}

// claims are what owners hold and wait for at locks, whose places are their numbers.
func claims(locks []*Lock) []api.Claim {
	var l []api.Claim
	for place, x := range locks {
		if o, is := x.Holder(); is {
			l = append(l, holds(o, place))
		}
		for _, o := range x.Waits() {
			l = append(l, waits(o, place))
		}
	}
	return l
}

// taker takes locks, one behind the other, and gives all back when it has them.
type taker struct {
	me     api.Owner
	places []int
	got    int
}

// goOn lets it take the next, or give all back.
func (x *taker) goOn(locks []*Lock) {
	if x.got < len(x.places) {
		if is, _ := locks[x.places[x.got]].Ask(x.me); is {
			x.got++
		}
		return
	}
	for _, place := range x.places {
		locks[place].Free(x.me)
	}
	x.places, x.got = nil, 0
}

// takers are some that want some of ten places each, in the order that is told.
func takers(b []byte, order func(x, y int) int) []*taker {
	var l []*taker
	for i := 0; i+4 <= len(b); i += 4 {
		places := []int{int(b[i]) % 10, int(b[i+1]) % 10, int(b[i+2]) % 10, int(b[i+3]) % 10}
		slices.SortStableFunc(places, order)
		l = append(l, &taker{me: own(i%7, 1+i), places: slices.Compact(places)})
	}
	return l
}

// P7.5, P7.6: those that take locks in their order all come to their end, and are never stuck on the way.
func TestTakers(t *testing.T) {
	for seed := range uint64(100) {
		var locks []*Lock
		for range 10 {
			locks = append(locks, New())
		}
		all := takers(row(48, seed), func(x, y int) int { return x - y })
		for _, k := range row(3000, seed+1) {
			all[int(k)%len(all)].goOn(locks)
			if got, e := Stuck(claims(locks)...); len(got) != 0 || e != api.OK {
				t.Fatalf("Stuck = %v, %d", got, e)
			}
		}
		for i, x := range all {
			if len(x.places) > 0 {
				t.Errorf("%d has %d of %v at the end", i, x.got, x.places)
			}
		}
	}
}

// P7.4: those that take locks in any order are stuck at times; just these do not come to their end.
func TestTakersAnyOrder(t *testing.T) {
	ever := 0
	for seed := range uint64(100) {
		var locks []*Lock
		for range 10 {
			locks = append(locks, New())
		}
		all := takers(row(12, seed), func(x, y int) int { return x*7%10 - y*7%10 })
		for i, x := range all {
			if i%2 > 0 {
				slices.Reverse(x.places)
			}
		}
		for _, k := range row(3000, seed+1) {
			all[int(k)%len(all)].goOn(locks)
		}
		got, e := Stuck(claims(locks)...)
		for _, x := range all {
			if slices.Contains(got, x.me) != (len(x.places) > 0) || e != api.OK {
				t.Errorf("Stuck = %v, %d; and %v has %d of %v", got, e, x.me, x.got, x.places)
			}
		}
		if len(got) > 0 {
			ever++
		}
	}
	if ever < 10 || ever > 90 {
		t.Errorf("some are stuck in %d of 100", ever)
	}
}

// P7.4: what is handed in stays as it was, and what is told shares nothing with it, or with what is told again.
func TestStuckOwn(t *testing.T) {
	long := []api.Claim{holds(d, 2), waits(d, 1), holds(b, 1), waits(b, 2), waits(d, 1), waits(a, 1), holds(c, 1)}
	before := slices.Clone(long)
	first, _ := Stuck(long[:6]...)
	second, _ := Stuck(long[:6]...)
	if !slices.Equal(long, before) {
		t.Errorf("what was handed in is %v", long)
	}
	spoil(first)
	clear(long)
	third, _ := Stuck(before[:6]...)
	for _, l := range [][]api.Owner{second, third} {
		if !slices.Equal(l, []api.Owner{a, b, d}) {
			t.Errorf("Stuck = %v", l)
		}
	}
}

// The document's example, as far as it tells of claims.
func TestStuckExample(t *testing.T) {
	l := []api.Claim{holds(a, 1), waits(a, 2), holds(b, 2), waits(b, 1)}
	stucks(t, l, a, b)
	stucks(t, with(l, waits(c, 2)), a, c, b)
}

// P7.4: whatever the claims are.
func FuzzStuck(f *testing.F) {
	f.Add(row(40, 1), byte(4), byte(6))
	f.Add(row(80, 2), byte(13), byte(20))
	f.Fuzz(func(t *testing.T, b []byte, many, places byte) {
		l := drawn(b[:min(len(b), 120)], 1+int(many)%16, 1+int(places))
		stucks(t, l, plainStuck(l)...)
	})
}
