package model

import (
	"fmt"
	"slices"
	"testing"

	"leapfrog/api"
)

// does holds what a call makes of a map, and tells; and that the map that was handed in stays as it was.
func does(t *testing.T, l []api.Item, c api.Call, want []api.Item, told api.Result) {
	t.Helper()
	was, value := text(l), slices.Clone(c.Value)
	m, r, e := Do(l, c)
	if e != 0 || text(m) != text(want) || said(r) != said(told) {
		t.Errorf("Do(%s, %v) = %s, %s, %d; not %s, %s", was, c, text(m), said(r), e, text(want), said(told))
	}
	if text(l) != was || !slices.Equal(value, c.Value) {
		t.Errorf("Do(%s, %v) changed what it was handed: %s", was, c, text(l))
	}
	if !Tells(l, c, told) {
		t.Errorf("Tells(%s, %v, %s) = false", was, c, said(told))
	}
}

// P10.2: CInsert: the key is there then, with its value, in its place.
func TestInsert(t *testing.T) {
	does(t, nil, insert(5, "a"), []api.Item{item(5, "a")}, api.Result{})
	does(t, nil, insert(0, ""), []api.Item{item(0, "")}, api.Result{})
	does(t, nil, insert(top, "z"), []api.Item{item(top, "z")}, api.Result{})
	does(t, items(5), insert(0, "0"), items(0, 5), api.Result{})
	does(t, items(5), insert(4, "4"), items(4, 5), api.Result{})
	does(t, items(5), insert(6, "6"), items(5, 6), api.Result{})
	does(t, items(5), insert(top, fmt.Sprint(uint64(top))), items(5, top), api.Result{})
	does(t, items(5, 9, 12), insert(7, "7"), items(5, 7, 9, 12), api.Result{})
	does(t, items(5, 9, 12), insert(10, "10"), items(5, 9, 10, 12), api.Result{})
	full := string(make([]byte, 1024))
	does(t, items(5, 9), insert(7, full), []api.Item{item(5, "5"), item(7, full), item(9, "9")}, api.Result{})
}

// P10.2: CInsert of a key that is there: ErrExists, and its value stays.
func TestInsertThere(t *testing.T) {
	for _, l := range someMaps() {
		for _, it := range l {
			does(t, l, insert(it.Key, "other"), l, fails(100))
			does(t, l, insert(it.Key, string(it.Value)), l, fails(100))
		}
	}
}

// P10.2: CDelete: the key is there no more; ErrAbsent, if it was not.
func TestDelete(t *testing.T) {
	for _, l := range someMaps() {
		for i, it := range l {
			does(t, l, remove(it.Key), slices.Delete(copyOf(l), i, i+1), api.Result{})
		}
	}
	for _, k := range []uint64{0, 4, 6, 8, 10, 1<<32 + 5, top} {
		does(t, nil, remove(k), nil, fails(101))
		does(t, items(5), remove(k), items(5), fails(101))
		does(t, items(5, 7, 9), remove(k), items(5, 7, 9), fails(101))
	}
}

// P10.2: CGet: the key, its value, Found; else ErrAbsent.
func TestGet(t *testing.T) {
	for _, l := range someMaps() {
		for _, it := range l {
			does(t, l, get(it.Key), l, finds(it))
		}
	}
	for _, k := range []uint64{0, 4, 6, 8, 10, 1<<32 + 5, top} {
		does(t, nil, get(k), nil, fails(101))
		does(t, items(5), get(k), items(5), fails(101))
		does(t, items(5, 7, 9), get(k), items(5, 7, 9), fails(101))
	}
}

// P10.2: CCeil: the least key at or above it; ErrAbsent, if there is none.
func TestCeil(t *testing.T) {
	l := items(5, 7, 9, 12)
	for k, i := range map[uint64]int{0: 0, 1: 0, 4: 0, 5: 0, 6: 1, 7: 1, 8: 2, 9: 2, 10: 3, 11: 3, 12: 3} {
		does(t, l, ceil(k), l, finds(l[i]))
	}
	for _, k := range []uint64{13, 14, 1 << 32, top - 1, top} {
		does(t, l, ceil(k), l, fails(101))
		does(t, nil, ceil(k), nil, fails(101))
	}
	does(t, nil, ceil(0), nil, fails(101))
	ends := items(0, top)
	does(t, ends, ceil(0), ends, finds(ends[0]))
	does(t, ends, ceil(1), ends, finds(ends[1]))
	does(t, ends, ceil(top), ends, finds(ends[1]))
}

// P10.2: CRange: all items from Key to High, both counted.
func TestRange(t *testing.T) {
	l := items(5, 7, 9, 12)
	does(t, nil, between(0, top), nil, api.Result{})
	does(t, l, between(0, top), l, lists(l...))
	does(t, l, between(0, 0), l, api.Result{})
	does(t, l, between(0, 4), l, api.Result{})
	does(t, l, between(13, top), l, api.Result{})
	does(t, l, between(10, 11), l, api.Result{})
	for low := range uint64(15) {
		for high := range uint64(15) {
			var want []api.Item
			for _, it := range l {
				if it.Key >= low && it.Key <= high {
					want = append(want, it)
				}
			}
			does(t, l, between(low, high), l, lists(want...))
		}
	}
	ends := items(0, top)
	does(t, ends, between(0, 0), ends, lists(ends[0]))
	does(t, ends, between(top, top), ends, lists(ends[1]))
	does(t, ends, between(1, top-1), ends, api.Result{})
	does(t, ends, between(0, top), ends, lists(ends...))
	does(t, ends, between(top, 0), ends, api.Result{})
	does(t, ends, between(1, 0), ends, api.Result{})
}

// P10.2: CRange tells MaxRange items; of one more, ErrLarge alone.
func TestRangeLarge(t *testing.T) {
	for _, from := range []uint64{0, top - 79} {
		l := rising(from, 80)
		for i := range l {
			for j := i; j < len(l); j++ {
				want := lists(l[i : j+1]...)
				if j+1-i > 64 {
					want = fails(102)
				}
				does(t, l, between(l[i].Key, l[j].Key), l, want)
			}
		}
		does(t, l, between(0, top), l, fails(102))
		does(t, l, between(top, 0), l, api.Result{})
	}
	does(t, rising(8, 64), between(0, top), rising(8, 64), lists(rising(8, 64)...))
	does(t, rising(8, 65), between(0, top), rising(8, 65), fails(102))
	does(t, rising(8, 65), between(9, top), rising(8, 65), lists(rising(9, 64)...))
	does(t, rising(8, 65), between(0, 71), rising(8, 65), lists(rising(8, 64)...))
	does(t, rising(8, 5000), between(0, top), rising(8, 5000), fails(102))
	does(t, rising(8, 5000), between(5007, 8), rising(8, 5000), api.Result{})
}

// P10.2: ErrModel, then ErrCall; all else is zero.
func TestWrong(t *testing.T) {
	calls := append(rightCalls(), wrongCalls()...)
	for _, l := range noMaps() {
		was := text(l)
		for _, c := range calls {
			refuses(t, l, c, 103)
		}
		if text(l) != was {
			t.Errorf("what was handed in is now %s", text(l))
		}
	}
	for _, l := range someMaps() {
		for _, c := range wrongCalls() {
			refuses(t, l, c, 104)
		}
	}
}

// refuses holds that a call is not done, and why.
func refuses(t *testing.T, l []api.Item, c api.Call, want api.Errno) {
	t.Helper()
	m, r, e := Do(l, c)
	if len(m) != 0 || said(r) != said(api.Result{}) || e != want {
		t.Errorf("Do(%d items, %d %d %d) = %s, %s, %d; not %d", len(l), c.Kind, c.Key, c.High, text(m), said(r), e, want)
	}
	for _, r := range []api.Result{{}, fails(want), fails(101)} {
		if Tells(l, c, r) {
			t.Errorf("Tells(%d items, %d %d %d) = true", len(l), c.Kind, c.Key, c.High)
		}
	}
}

// P10.3: what Do tells, and nothing else.
func TestTells(t *testing.T) {
	for _, l := range someMaps() {
		for _, c := range rightCalls() {
			_, r, e := Do(l, c)
			if e != 0 || !Tells(l, c, r) {
				t.Errorf("Tells(%d items, %d %d %d, %s) = false, %d", len(l), c.Kind, c.Key, c.High, said(r), e)
			}
			for _, u := range unlike(r) {
				if Tells(l, c, u) {
					t.Errorf("Tells(%d items, %d %d %d, %s) = true", len(l), c.Kind, c.Key, c.High, said(u))
				}
			}
		}
	}
	if !Tells(nil, between(0, 9), api.Result{Items: []api.Item{}, Value: []byte{}}) {
		t.Error("nil and empty are alike")
	}
}

// runs holds what calls make of a map, and tell.
func runs(t *testing.T, l []api.Item, cs []api.Call, want []api.Item, e api.Errno, told ...api.Result) {
	t.Helper()
	was := text(l)
	m, rs, got := Run(l, cs...)
	if got != e || text(m) != text(want) || !slices.EqualFunc(rs, told, func(a, b api.Result) bool { return said(a) == said(b) }) {
		t.Errorf("Run(%s, %v) = %s, %v, %d; not %s, %v, %d", was, cs, text(m), rs, got, text(want), told, e)
	}
	if text(l) != was {
		t.Errorf("Run(%s) changed what it was handed: %s", was, text(l))
	}
}

// P10.2: calls are done in order, each on what the one ahead of it made.
func TestRun(t *testing.T) {
	for _, l := range someMaps() {
		runs(t, l, nil, l, 0)
		runs(t, l, []api.Call{}, l, 0)
	}
	ok := api.Result{}
	runs(t, nil, []api.Call{insert(5, "a"), insert(5, "b")}, []api.Item{item(5, "a")}, 0, ok, fails(100))
	runs(t, nil, []api.Call{insert(5, "5"), ceil(6), between(0, 9)}, items(5), 0, ok, fails(101), lists(items(5)...))
	runs(t, items(5, 9), []api.Call{remove(5), insert(5, "new"), get(5), remove(9), ceil(6), remove(9)},
		[]api.Item{item(5, "new")}, 0, ok, ok, finds(item(5, "new")), ok, fails(101), fails(101))
	runs(t, items(5, 9), []api.Call{between(0, top), remove(5), between(0, top), insert(0, "0"), between(0, top)},
		items(0, 9), 0, lists(items(5, 9)...), ok, lists(items(9)...), ok, lists(items(0, 9)...))
}

// P10.2: at a call that may not be Run stops, and tells what was till then.
func TestRunStops(t *testing.T) {
	ok := api.Result{}
	for _, wrong := range wrongCalls() {
		runs(t, items(5), []api.Call{wrong}, items(5), 104)
		runs(t, items(5), []api.Call{wrong, insert(9, "9"), get(5)}, items(5), 104)
		runs(t, items(5), []api.Call{insert(9, "9"), wrong, remove(5)}, items(5, 9), 104, ok)
		runs(t, items(5), []api.Call{insert(9, "9"), remove(5), wrong}, items(9), 104, ok, ok)
		runs(t, items(5), []api.Call{get(4), wrong, wrong}, items(5), 104, fails(101))
		runs(t, nil, []api.Call{wrong}, nil, 104)
	}
}

// P10.2: on items that are no map nothing is done, and ErrModel is ahead of ErrCall.
func TestRunNoMap(t *testing.T) {
	for _, l := range noMaps() {
		runs(t, l, nil, nil, 103)
		runs(t, l, []api.Call{get(1)}, nil, 103)
		runs(t, l, []api.Call{remove(2), insert(2, "")}, nil, 103)
		runs(t, l, []api.Call{{}}, nil, 103)
		runs(t, l, []api.Call{get(1), {}}, nil, 103)
	}
}

// P10.4: an insert that tells OK and the delete behind it leave the map as it was; no call changes another key.
func TestOneKey(t *testing.T) {
	for _, l := range someMaps() {
		for _, c := range rightCalls() {
			m, r, e := Do(l, c)
			if e != 0 {
				t.Fatal(e)
			}
			if text(without(l, c.Key)) != text(without(m, c.Key)) {
				t.Errorf("Do(%s, %v) = %s", text(l), c, text(m))
			}
			if !Writes(c) && text(l) != text(m) {
				t.Errorf("a read makes %s of %s", text(m), text(l))
			}
			if c.Kind == api.CInsert && r.E == 0 {
				does(t, m, remove(c.Key), l, api.Result{})
			}
		}
	}
}

// without are the items but those of a key.
func without(l []api.Item, k uint64) []api.Item {
	return slices.DeleteFunc(copyOf(l), func(it api.Item) bool { return it.Key == k })
}

// P10.5: what Do makes is a map.
func TestStaysMap(t *testing.T) {
	for _, l := range someMaps() {
		for _, c := range rightCalls() {
			m, _, e := Do(l, c)
			if e != 0 || Check(m) != 0 {
				t.Errorf("Do(%s, %v) = %s, %d", text(l), c, text(m), e)
			}
		}
	}
}

// P10.6: what reads tell stands in the map, and nothing between is left out.
func TestReads(t *testing.T) {
	for _, l := range someMaps() {
		for _, c := range rightCalls() {
			_, r, _ := Do(l, c)
			if c.Kind == api.CCeil {
				ceilHolds(t, l, c, r)
			}
			if c.Kind == api.CRange {
				rangeHolds(t, l, c, r)
			}
		}
	}
}

func ceilHolds(t *testing.T, l []api.Item, c api.Call, r api.Result) {
	t.Helper()
	for _, it := range l {
		if it.Key >= c.Key && (r.E != 0 || it.Key < r.Key) {
			t.Errorf("CCeil %d of %s leaves out %d: %s", c.Key, text(l), it.Key, said(r))
		}
		if it.Key == r.Key && r.Found && string(it.Value) != string(r.Value) {
			t.Errorf("CCeil %d of %s tells %s", c.Key, text(l), said(r))
		}
	}
}

func rangeHolds(t *testing.T, l []api.Item, c api.Call, r api.Result) {
	t.Helper()
	var want []api.Item
	for _, it := range l {
		if it.Key >= c.Key && it.Key <= c.High {
			want = append(want, it)
		}
	}
	if len(want) <= 64 && (r.E != 0 || text(r.Items) != text(want)) || len(want) > 64 && (r.E != 102 || len(r.Items) != 0) {
		t.Errorf("CRange %d to %d of %s tells %s", c.Key, c.High, text(l), said(r))
	}
}

// P10.7: two calls that write unlike keys may be done in either order.
func TestApart(t *testing.T) {
	for _, l := range someMaps()[:15] {
		for _, a := range rightCalls() {
			for _, b := range rightCalls() {
				if Writes(a) && Writes(b) && a.Key != b.Key {
					eitherOrder(t, l, a, b)
				}
			}
		}
	}
}

func eitherOrder(t *testing.T, l []api.Item, a, b api.Call) {
	t.Helper()
	m, rs, e := Run(l, a, b)
	n, qs, f := Run(l, b, a)
	if e != 0 || f != 0 || text(m) != text(n) || said(rs[0]) != said(qs[1]) || said(rs[1]) != said(qs[0]) {
		t.Errorf("on %s, %v and %v: %s, %v; the other way round %s, %v", text(l), a, b, text(m), rs, text(n), qs)
	}
}

// scribble writes over all the memory of items, up to their rows' ends.
func scribble(l []api.Item) {
	l = l[:cap(l)]
	for i := range l {
		smear(l[i].Value)
		l[i] = api.Item{Key: 77}
	}
}

func smear(b []byte) {
	b = b[:cap(b)]
	for i := range b {
		b[i] = '#'
	}
}

// DOC.md rule 4: what Do answers shares no memory with what it was handed, nor the map with the result.
func TestDoApart(t *testing.T) {
	calls := []api.Call{insert(7, "seven"), insert(5, "x"), remove(9), remove(8), get(9), ceil(6), between(0, 99), between(9, 0)}
	for _, c := range calls {
		l := append(make([]api.Item, 0, 10), items(5, 9, 12)...)
		m, r, _ := Do(l, c)
		wantMap, wantResult := text(m), said(r)
		scribble(l)
		smear(c.Value)
		if text(m) != wantMap || said(r) != wantResult {
			t.Errorf("call %d: what was handed in is kept: %s, %s", c.Kind, text(m), said(r))
		}
		scribble(m)
		if said(r) != wantResult {
			t.Errorf("call %d: the result lies in the map: %s", c.Kind, said(r))
		}
	}
	for _, c := range calls {
		l := append(make([]api.Item, 0, 10), items(5, 9, 12)...)
		value := string(c.Value)
		m, r, _ := Do(l, c)
		scribble(m)
		smear(r.Value)
		scribble(r.Items)
		if text(l) != text(items(5, 9, 12)) || text(l[:10][3:]) != text(make([]api.Item, 7)) || string(c.Value) != value {
			t.Errorf("call %d: an answer lies in what was handed in: %s", c.Kind, text(l[:10]))
		}
	}
}

// DOC.md rule 4: the same of Run, whose results share none among them either.
func TestRunApart(t *testing.T) {
	cs := []api.Call{insert(7, "seven"), get(7), get(7), ceil(6), between(0, 99), between(0, 99), remove(9), insert(9, "n"), get(5)}
	l := append(make([]api.Item, 0, 20), items(5, 9, 12)...)
	for i := range cs {
		m, rs, _ := Run(l, cs...)
		wantMap := text(m)
		smear(rs[i].Value)
		scribble(rs[i].Items)
		_, fresh, _ := Run(l, cs...)
		for j := range rs {
			if j != i && said(rs[j]) != said(fresh[j]) {
				t.Errorf("results %d and %d share memory: %s", i, j, said(rs[j]))
			}
		}
		if text(m) != wantMap {
			t.Errorf("result %d lies in the map: %s", i, text(m))
		}
	}
	m, rs, _ := Run(l, cs...)
	want := fmt.Sprint(text(m), rs)
	value := cs[0].Value
	scribble(l)
	smear(value)
	if got := fmt.Sprint(text(m), rs); got != want {
		t.Errorf("what was handed in is kept: %s; not %s", got, want)
	}
}

// DOC.md rule 4: a map that came beside ErrCall is new memory, too.
func TestRunStoppedApart(t *testing.T) {
	l := items(5, 9)
	m, _, _ := Run(l, api.Call{})
	scribble(m)
	if text(l) != text(items(5, 9)) {
		t.Errorf("the map is now %s", text(l))
	}
	m, _, _ = Run(l, get(5))
	scribble(m)
	if text(l) != text(items(5, 9)) {
		t.Errorf("the map is now %s", text(l))
	}
}

// The chapter's example.
func TestExample(t *testing.T) {
	runs(t, nil, []api.Call{insert(5, ""), insert(5, ""), ceil(6), between(0, 9)}, []api.Item{item(5, "")}, 0,
		api.Result{}, fails(100), fails(101), lists(item(5, "")))
}
