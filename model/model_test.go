package model

import (
	"bytes"
	"fmt"
	"math"
	"slices"
	"strings"
	"testing"

	"leapfrog/api"
)

const top = math.MaxUint64

func item(k uint64, v string) api.Item { return api.Item{Key: k, Value: []byte(v)} }

// items are such with these keys, each with its key's number as its value.
func items(ks ...uint64) []api.Item {
	var l []api.Item
	for _, k := range ks {
		l = append(l, item(k, fmt.Sprint(k)))
	}
	return l
}

// rising are so many items from a key on.
func rising(from uint64, n int) []api.Item {
	var l []api.Item
	for i := range n {
		l = append(l, items(from+uint64(i))...)
	}
	return l
}

func insert(k uint64, v string) api.Call {
	return api.Call{Kind: api.CInsert, Key: k, Value: []byte(v)}
}
func remove(k uint64) api.Call     { return api.Call{Kind: api.CDelete, Key: k} }
func get(k uint64) api.Call        { return api.Call{Kind: api.CGet, Key: k} }
func ceil(k uint64) api.Call       { return api.Call{Kind: api.CCeil, Key: k} }
func between(k, h uint64) api.Call { return api.Call{Kind: api.CRange, Key: k, High: h} }

func fails(e api.Errno) api.Result { return api.Result{E: e} }
func finds(it api.Item) api.Result {
	return api.Result{Key: it.Key, Value: it.Value, Found: true}
}
func lists(l ...api.Item) api.Result { return api.Result{Items: l} }

// text is items as a text, by which the tests hold them against each other; nil and empty have one.
func text(l []api.Item) string {
	var b strings.Builder
	for _, it := range l {
		fmt.Fprintf(&b, "%d=%x ", it.Key, it.Value)
	}
	return b.String()
}

// said is a result as a text.
func said(r api.Result) string {
	return fmt.Sprintf("%d %d=%x [%s] %v %v %v", r.E, r.Key, r.Value, text(r.Items), r.Left, r.Right, r.Found)
}

// copyOf are items in memory of their own.
func copyOf(l []api.Item) []api.Item {
	var m []api.Item
	for _, it := range l {
		m = append(m, api.Item{Key: it.Key, Value: slices.Clone(it.Value)})
	}
	return m
}

// noMaps are items that are no map.
func noMaps() [][]api.Item {
	long := string(make([]byte, 1025))
	return [][]api.Item{
		items(2, 2), items(2, 1), items(0, 0), items(top, top), items(top, 0),
		items(1, 2, 2), items(1, 1, 2), items(1, 3, 2), items(3, 1, 2), items(1, 2, 1), items(3, 2, 1),
		{{}, {}}, {item(5, "a"), item(5, "b")},
		{item(1, long)}, {item(1, long), item(2, "")}, {item(1, ""), item(2, long)},
		{item(1, ""), item(2, long), item(3, "")}, {item(1, string(make([]byte, 1<<16)))},
		append(rising(0, 99), items(98)...), append(rising(1, 99), items(0)...),
	}
}

// someMaps are maps.
func someMaps() [][]api.Item {
	full := string(bytes.Repeat([]byte{7}, 1024))
	return [][]api.Item{
		nil, {}, items(0), items(5), items(top), {{}}, {{Key: 3, Value: []byte{}}},
		items(0, 1), items(0, top), items(top-1, top), items(5, 9), items(5, 7, 9, 12),
		{item(1, full)}, {item(1, full), item(2, full), item(top, full)}, {item(4, ""), item(6, "x"), {Key: 8}},
		rising(0, 64), rising(0, 65), rising(top-64, 65), rising(100, 300),
	}
}

// rightCalls are calls that may be, wrongCalls such as may not.
func rightCalls() []api.Call {
	var l []api.Call
	for _, k := range []uint64{0, 1, 5, 6, 9, 1 << 40, top - 1, top} {
		for _, v := range []string{"", "a", string(make([]byte, 1023)), string(make([]byte, 1024))} {
			l = append(l, insert(k, v))
		}
		l = append(l, api.Call{Kind: api.CInsert, Key: k})
		for _, kind := range []api.CallKind{2, 3, 4, 5} {
			l = append(l, api.Call{Kind: kind, Key: k}, api.Call{Kind: kind, Key: k, Value: []byte{}})
		}
		for _, h := range []uint64{1, 5, 9, 1 << 40, top} {
			l = append(l, between(k, h))
		}
	}
	return l
}

func wrongCalls() []api.Call {
	var l []api.Call
	for _, k := range []uint64{0, 5, top} {
		for _, h := range []uint64{1, 2, 5, 1 << 32, 1 << 63, top} {
			l = append(l, api.Call{Kind: 1, Key: k, High: h}, api.Call{Kind: 1, Key: k, High: h, Value: []byte("a")})
			l = append(l, api.Call{Kind: 2, Key: k, High: h}, api.Call{Kind: 3, Key: k, High: h})
			l = append(l, api.Call{Kind: 4, Key: k, High: h})
		}
		l = append(l, insert(k, string(make([]byte, 1025))), insert(k, string(make([]byte, 1<<16))))
		for _, kind := range []api.CallKind{2, 3, 4, 5} {
			for _, h := range []uint64{0, 9} {
				l = append(l, api.Call{Kind: kind, Key: k, High: h, Value: []byte("a")})
				l = append(l, api.Call{Kind: kind, Key: k, High: h, Value: make([]byte, 1)})
				l = append(l, api.Call{Kind: kind, Key: k, High: h, Value: make([]byte, 1025)})
			}
		}
		for _, kind := range noKinds() {
			l = append(l, api.Call{Kind: kind, Key: k}, api.Call{Kind: kind, Key: k, High: 9})
			l = append(l, api.Call{Kind: kind, Key: k, Value: []byte("a")})
		}
	}
	return l
}

func noKinds() []api.CallKind {
	return []api.CallKind{0, -1, -5, 6, 7, 256 + 1, 1<<32 + 1, math.MinInt, math.MaxInt}
}

// P10.1: a map rises, has no key twice, and no value of more than MaxValue bytes.
func TestCheck(t *testing.T) {
	for _, l := range someMaps() {
		if e := Check(l); e != 0 {
			t.Errorf("Check(%s) = %d", text(l), e)
		}
	}
	for _, l := range noMaps() {
		if e := Check(l); e != 103 {
			t.Errorf("Check(%s) = %d", text(l), e)
		}
	}
}

// P10.1: one item out of place is seen wherever it is.
func TestCheckEachPlace(t *testing.T) {
	for i := range 30 {
		l := rising(10, 30)
		l[i].Value = make([]byte, 1024)
		if e := Check(l); e != 0 {
			t.Errorf("a long value at %d: %d", i, e)
		}
		l[i].Value = make([]byte, 1025)
		if e := Check(l); e != 103 {
			t.Errorf("too long a value at %d: %d", i, e)
		}
		for j := range i {
			l := rising(10, 30)
			l[i].Key = l[j].Key
			if e := Check(l); e != 103 {
				t.Errorf("the key of %d at %d: %d", j, i, e)
			}
		}
	}
}

// P10.1: a call has its kind's parts alone.
func TestCall(t *testing.T) {
	for _, c := range rightCalls() {
		if e := Call(c); e != 0 {
			t.Errorf("Call(%d %d %d, %d bytes) = %d", c.Kind, c.Key, c.High, len(c.Value), e)
		}
	}
	for _, c := range wrongCalls() {
		if e := Call(c); e != 104 {
			t.Errorf("Call(%d %d %d, %d bytes) = %d", c.Kind, c.Key, c.High, len(c.Value), e)
		}
	}
}

// P10.1: inserts and deletes write, whatever else they have.
func TestWrites(t *testing.T) {
	for _, more := range []api.Call{{}, {Key: top}, {High: 3}, {Value: []byte("a")}, {Value: make([]byte, 1025)}} {
		for kind := range api.CallKind(10) {
			c := more
			c.Kind = kind
			if is := Writes(c); is != (kind == 1 || kind == 2) {
				t.Errorf("Writes of kind %d = %v", kind, is)
			}
		}
		for _, kind := range noKinds() {
			if Writes(api.Call{Kind: kind}) {
				t.Errorf("kind %d writes", kind)
			}
		}
	}
}

// P10.1: items are held against each other one by one, be they a map or not.
func TestSame(t *testing.T) {
	all := append(someMaps(), noMaps()...)
	all = append(all, []api.Item{item(1, "a")}, []api.Item{item(1, "b")}, []api.Item{item(1, "ab")}, []api.Item{item(2, "a")})
	for _, a := range all {
		for _, b := range all {
			if is := Same(a, copyOf(b)); is != (text(a) == text(b)) {
				t.Errorf("Same(%s, %s) = %v", text(a), text(b), is)
			}
		}
	}
	if !Same(nil, []api.Item{}) || !Same([]api.Item{}, nil) || !Same(nil, nil) {
		t.Error("nil and empty are alike")
	}
	if !Same([]api.Item{{Key: 1}}, []api.Item{{Key: 1, Value: []byte{}}}) {
		t.Error("a nil and an empty value are alike")
	}
	if Same(nil, []api.Item{{}}) || Same([]api.Item{{}}, nil) || Same(items(1, 2), items(1)) || Same(items(1, 2), items(2, 1)) {
		t.Error("rows of unlike length or order are not")
	}
}

// unlike are results that differ from one in one field each, and from each other.
func unlike(r api.Result) []api.Result {
	var l []api.Result
	change := func(f func(r *api.Result)) {
		s := r
		f(&s)
		l = append(l, s)
	}
	change(func(r *api.Result) { r.E++ })
	change(func(r *api.Result) { r.E = 104 })
	change(func(r *api.Result) { r.Key++ })
	change(func(r *api.Result) { r.Value = append(slices.Clone(r.Value), 9) })
	change(func(r *api.Result) { r.Items = append(copyOf(r.Items), item(0, "")) })
	change(func(r *api.Result) { r.Items = append([]api.Item{item(0, "z")}, r.Items...) })
	change(func(r *api.Result) { r.Left.ID++ })
	change(func(r *api.Result) { r.Left.Key.Rank++ })
	change(func(r *api.Result) { r.Left.Key.N++ })
	change(func(r *api.Result) { r.Left.Vec.Len++ })
	change(func(r *api.Result) { r.Left.Vec.Bits++ })
	change(func(r *api.Result) { r.Right.ID++ })
	change(func(r *api.Result) { r.Right.Key.Rank++ })
	change(func(r *api.Result) { r.Right.Key.N++ })
	change(func(r *api.Result) { r.Right.Vec.Len++ })
	change(func(r *api.Result) { r.Right.Vec.Bits++ })
	change(func(r *api.Result) { r.Found = !r.Found })
	if len(r.Value) > 0 {
		change(func(r *api.Result) { r.Value = nil })
		change(func(r *api.Result) { r.Value = bytes.Repeat([]byte{255}, len(r.Value)) })
	}
	if n := len(r.Items); n > 0 {
		change(func(r *api.Result) { r.Items = nil })
		change(func(r *api.Result) { r.Items = copyOf(r.Items); r.Items[n-1].Key += 1000 })
		change(func(r *api.Result) { r.Items = copyOf(r.Items); r.Items[n-1].Value = []byte("other") })
	}
	return l
}

// someResults are results with every field.
func someResults() []api.Result {
	ref := api.Ref{ID: 3, Key: api.Key{Rank: api.RAt, N: 9}, Vec: api.Vec{Len: 2, Bits: 1}}
	return []api.Result{
		{}, fails(100), finds(item(5, "a")), lists(items(5, 9)...), {Left: ref}, {Right: ref},
		{E: 7, Key: 8, Value: []byte("v"), Items: items(1, 2, 3), Left: ref, Right: ref, Found: true},
	}
}

// P10.1: results are held against each other field by field.
func TestSameResult(t *testing.T) {
	for _, r := range someResults() {
		twin := r
		twin.Value, twin.Items = slices.Clone(r.Value), copyOf(r.Items)
		if !SameResult(r, twin) || !SameResult(twin, r) || !SameResult(r, r) {
			t.Errorf("%s is not the same as itself", said(r))
		}
		all := append(unlike(r), r)
		for i, a := range all {
			for j, b := range all {
				if is := SameResult(a, b); is != (i == j) {
					t.Errorf("SameResult(%s, %s) = %v", said(a), said(b), is)
				}
			}
		}
	}
	full := api.Result{Value: []byte{}, Items: []api.Item{}}
	if !SameResult(full, api.Result{}) || !SameResult(api.Result{}, full) {
		t.Error("nil and empty are alike")
	}
	if !SameResult(lists(api.Item{Key: 1}), lists(api.Item{Key: 1, Value: []byte{}})) {
		t.Error("an item's nil and empty values are alike")
	}
}

// P10.3: a key's value, if it is there.
func TestKey(t *testing.T) {
	for _, l := range someMaps() {
		for _, it := range l {
			if v, is := Key(l, it.Key); !is || !bytes.Equal(v, it.Value) {
				t.Errorf("Key(%s, %d) = %x, %v", text(l), it.Key, v, is)
			}
		}
	}
	for _, k := range []uint64{0, 4, 6, 8, 10, 13, 1 << 32, 1<<32 + 5, top} {
		if v, is := Key(items(5, 7, 9, 12), k); is || len(v) != 0 {
			t.Errorf("Key of %d, which is not there: %x, %v", k, v, is)
		}
		if v, is := Key(nil, k); is || len(v) != 0 {
			t.Errorf("Key of %d in nothing: %x, %v", k, v, is)
		}
	}
}

// P10.3: of items that are no map, the first such.
func TestKeyNoMap(t *testing.T) {
	twice := []api.Item{item(9, "a"), item(5, "b"), item(9, "c"), item(1, "d"), item(5, "e"), item(top, "f"), item(9, "g"), item(0, "")}
	for k, want := range map[uint64]string{9: "a", 5: "b", 1: "d", top: "f"} {
		if v, is := Key(twice, k); !is || string(v) != want {
			t.Errorf("Key of %d = %q, %v", k, v, is)
		}
	}
	if v, is := Key(twice, 0); !is || len(v) != 0 {
		t.Errorf("Key of 0 = %q, %v", v, is)
	}
	if v, is := Key(twice, 2); is || len(v) != 0 {
		t.Errorf("Key of 2 = %q, %v", v, is)
	}
	long := bytes.Repeat([]byte{3}, 5000)
	if v, is := Key([]api.Item{{Key: 2, Value: long}, {Key: 2}}, 2); !is || !bytes.Equal(v, long) {
		t.Errorf("a long value: %d bytes, %v", len(v), is)
	}
	for _, l := range noMaps() {
		for _, it := range l {
			i := slices.IndexFunc(l, func(x api.Item) bool { return x.Key == it.Key })
			if v, is := Key(l, it.Key); !is || !bytes.Equal(v, l[i].Value) {
				t.Errorf("Key(%s, %d) = %x, %v", text(l), it.Key, v, is)
			}
		}
	}
}

// DOC.md rule 4: what Key answers is not the map's own memory.
func TestKeyApart(t *testing.T) {
	l := items(5, 9)
	v, _ := Key(l, 9)
	v[0] = 'x'
	if text(l) != text(items(5, 9)) {
		t.Errorf("the map is now %s", text(l))
	}
	l[1].Value[0] = 'y'
	if string(v) != "x" {
		t.Errorf("the value is now %s", v)
	}
}
