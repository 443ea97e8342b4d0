package pack

import (
	"bytes"
	"encoding/binary"
	"fmt"
	"math"
	"strconv"
	"strings"
	"testing"

	"leapfrog/api"
)

// The tests hold bytes against those that the library's encoding/binary makes, whose numbers of changing length are the document's, and against rows of '0' and '1'.

// numbers are some of 64 bits: those about the ends of each count of bytes, and the greatest.
func numbers() []uint64 {
	l := []uint64{0, 1, 2, 63, 64, 65, 255, 256, 257, 300, 0x0102030405060708, math.MaxUint64 - 1, math.MaxUint64, 1<<64 - 1<<57}
	for shift := 7; shift < 64; shift += 7 {
		l = append(l, 1<<shift-1, 1<<shift, 1<<shift+1)
	}
	return l
}

// ints are some: about 0, about the ends of each count of bytes, the least and the greatest.
func ints() []int {
	l := []int{0, 1, -1, 2, -2, math.MaxInt, math.MinInt, math.MaxInt - 1, math.MinInt + 1}
	for shift := 6; shift < 63; shift += 7 {
		l = append(l, 1<<shift-1, 1<<shift, -1<<shift, -1<<shift-1)
	}
	return l
}

// bitRows are rows of each length from none to 32, of zeros, of ones, and mixed.
func bitRows() []string {
	var l []string
	for n := range 33 {
		l = append(l, strings.Repeat("0", n), strings.Repeat("1", n), strings.Repeat("01", 16)[:n], strings.Repeat("110", 11)[:n])
	}
	return l
}

// ofBits is the vector of a row.
func ofBits(row string) api.Vec {
	n, _ := strconv.ParseUint("0"+row, 2, 64)
	return api.Vec{Len: len(row), Bits: n}
}

func vectors() []api.Vec {
	var l []api.Vec
	for _, r := range bitRows() {
		l = append(l, ofBits(r))
	}
	return l
}

var low, high = api.Key{Rank: api.RLow}, api.Key{Rank: api.RHigh}

func at(n uint64) api.Key { return api.Key{Rank: api.RAt, N: n} }

func keys() []api.Key {
	l := []api.Key{low, high}
	for _, n := range numbers() {
		l = append(l, at(n))
	}
	return l
}

func refs() []api.Ref {
	var l []api.Ref
	k, v := keys(), vectors()
	for i, id := range ints() {
		l = append(l, api.Ref{ID: id, Key: k[i%len(k)], Vec: v[i*5%len(v)]}, api.Ref{ID: id, Key: high}, api.Ref{ID: id, Key: at(uint64(i)), Vec: v[len(v)-1-i]})
	}
	return l
}

// rows are some of bytes, of none to the most there may be.
func rows() [][]byte {
	l := [][]byte{nil, {}, {0}, {255}, []byte("hi"), {0, 128, 255, 1}}
	for _, n := range []int{127, 128, 129, 16383, 16384, api.MaxBytes - 1, api.MaxBytes} {
		b := make([]byte, n)
		for i := range b {
			b[i] = byte(i * 7)
		}
		l = append(l, b)
	}
	return l
}

func num(n uint64) api.Field     { return api.Field{Kind: api.FNum, N: n} }
func whole(i int) api.Field      { return api.Field{Kind: api.FInt, I: i} }
func truth(t bool) api.Field     { return api.Field{Kind: api.FBool, T: t} }
func row(b []byte) api.Field     { return api.Field{Kind: api.FBytes, B: b} }
func vector(v api.Vec) api.Field { return api.Field{Kind: api.FVec, V: v} }
func ofKey(k api.Key) api.Field  { return api.Field{Kind: api.FKey, K: k} }
func ofRef(r api.Ref) api.Field  { return api.Field{Kind: api.FRef, R: r} }

// right are fields that may be, of every kind.
func right() []api.Field {
	l := []api.Field{truth(false), truth(true)}
	for _, n := range numbers() {
		l = append(l, num(n))
	}
	for _, i := range ints() {
		l = append(l, whole(i))
	}
	for _, b := range rows() {
		l = append(l, row(b))
	}
	for _, v := range vectors() {
		l = append(l, vector(v))
	}
	for _, k := range keys() {
		l = append(l, ofKey(k))
	}
	for _, r := range refs() {
		l = append(l, ofRef(r))
	}
	return l
}

// short are those of right that have few bytes.
func short() []api.Field {
	var l []api.Field
	for _, f := range right() {
		if len(f.B) < 200 {
			l = append(l, f)
		}
	}
	return l
}

// strangers are fields' parts of each kind, none of them zero.
func strangers() map[api.FieldKind]func(f *api.Field) {
	return map[api.FieldKind]func(f *api.Field){
		api.FNum:   func(f *api.Field) { f.N = 1 },
		api.FInt:   func(f *api.Field) { f.I = -1 },
		api.FBool:  func(f *api.Field) { f.T = true },
		api.FBytes: func(f *api.Field) { f.B = []byte{0} },
		api.FVec:   func(f *api.Field) { f.V.Len = 1 },
		api.FKey:   func(f *api.Field) { f.K = low },
		api.FRef:   func(f *api.Field) { f.R.ID = 1 },
	}
}

// wrongVectors are vectors that may not be.
func wrongVectors() []api.Vec {
	return []api.Vec{{Len: -1}, {Len: math.MinInt}, {Len: 33}, {Len: 256}, {Len: 259, Bits: 5}, {Len: math.MaxInt}, {Bits: 1}, {Len: 3, Bits: 8}, {Len: 8, Bits: 256}, {Len: 32, Bits: 1 << 32}, {Len: 32, Bits: math.MaxUint64}}
}

// wrongKeys are keys that may not be.
func wrongKeys() []api.Key {
	return []api.Key{{}, {N: 1}, {Rank: 4}, {Rank: -1}, {Rank: 257}, {Rank: 258, N: 1}, {Rank: api.RLow, N: 1}, {Rank: api.RHigh, N: math.MaxUint64}, {Rank: math.MinInt}, {Rank: math.MaxInt}}
}

// wrongKinds are kinds that are none.
func wrongKinds() []api.FieldKind {
	return []api.FieldKind{0, 8, 9, -1, -7, 255, 256, 257, 1 << 32, 1<<32 + 1, math.MinInt, math.MaxInt}
}

// wrong are fields that may not be.
func wrong() []api.Field {
	l := []api.Field{{}, row(make([]byte, api.MaxBytes+1)), row(make([]byte, api.MaxBytes+1000))}
	for _, k := range wrongKinds() {
		l = append(l, api.Field{Kind: k}, api.Field{Kind: k, N: 1}, api.Field{Kind: k, B: []byte{1}})
	}
	for _, f := range short() {
		for kind, put := range strangers() {
			if kind != f.Kind {
				x := f
				put(&x)
				l = append(l, x)
			}
		}
	}
	for _, v := range wrongVectors() {
		l = append(l, vector(v), ofRef(api.Ref{ID: 1, Key: at(1), Vec: v}), api.Field{Kind: api.FNum, V: v}, api.Field{Kind: api.FKey, K: low, R: api.Ref{Vec: v}})
	}
	for _, k := range wrongKeys() {
		l = append(l, ofKey(k), ofRef(api.Ref{ID: 1, Key: k}))
		if k != (api.Key{}) {
			l = append(l, api.Field{Kind: api.FInt, K: k}, api.Field{Kind: api.FVec, R: api.Ref{Key: k}})
		}
	}
	return append(l, ofRef(api.Ref{}), ofRef(api.Ref{ID: 1, Vec: api.Vec{Len: 1}}), api.Field{Kind: api.FBytes, B: []byte{1}, N: 1})
}

// vectorBytes are a vector's, by its row of bits.
func vectorBytes(b []byte, v api.Vec) []byte {
	b = append(b, byte(v.Len))
	bits := ""
	for i := range v.Len {
		bits += strconv.Itoa(int(v.Bits >> (v.Len - 1 - i) & 1))
	}
	for len(bits)%8 != 0 {
		bits += "0"
	}
	for ; bits != ""; bits = bits[8:] {
		n, _ := strconv.ParseUint(bits[:8], 2, 8)
		b = append(b, byte(n))
	}
	return b
}

func keyBytes(b []byte, k api.Key) []byte {
	b = append(b, byte(k.Rank))
	if k.Rank == api.RAt {
		b = binary.BigEndian.AppendUint64(b, k.N)
	}
	return b
}

// bytesOf are the bytes of fields that may be.
func bytesOf(l ...api.Field) []byte {
	b := []byte{}
	for _, f := range l {
		switch f.Kind {
		case api.FNum:
			b = binary.AppendUvarint(b, f.N)
		case api.FInt:
			b = binary.AppendVarint(b, int64(f.I))
		case api.FBool:
			b = append(b, map[bool]byte{true: 1}[f.T])
		case api.FBytes:
			b = append(binary.AppendUvarint(b, uint64(len(f.B))), f.B...)
		case api.FVec:
			b = vectorBytes(b, f.V)
		case api.FKey:
			b = keyBytes(b, f.K)
		case api.FRef:
			b = vectorBytes(keyBytes(binary.AppendVarint(b, int64(f.R.ID)), f.R.Key), f.R.Vec)
		}
	}
	return b
}

// kindsOf are the kinds of fields.
func kindsOf(l []api.Field) []api.FieldKind {
	var kinds []api.FieldKind
	for _, f := range l {
		kinds = append(kinds, f.Kind)
	}
	return kinds
}

// alike tells whether two rows of fields are, with nil and empty rows of bytes as one.
func alike(a, b []api.Field) bool {
	if len(a) != len(b) {
		return false
	}
	for i, x := range a {
		y := b[i]
		if x.Kind != y.Kind || x.N != y.N || x.I != y.I || x.T != y.T || string(x.B) != string(y.B) || x.V != y.V || x.K != y.K || x.R != y.R {
			return false
		}
	}
	return true
}

// cut is the text of fields, or its beginning: a row may be long.
func cut(x any) string {
	s := fmt.Sprint(x)
	return s[:min(len(s), 120)]
}

// P3.1: fields of every kind that may be, and that may not.
func TestCheck(t *testing.T) {
	for _, f := range right() {
		if e := Check(f); e != api.OK {
			t.Errorf("Check(%s) = %d", cut(f), e)
		}
		f.B = append([]byte{}, f.B...)
		if e := Check(f); e != api.OK {
			t.Errorf("Check(%s), with an empty row, = %d", cut(f), e)
		}
	}
	for _, f := range wrong() {
		if e := Check(f); e != 30 {
			t.Errorf("Check(%s) = %d", cut(f), e)
		}
	}
}

// P3.1: the bytes of each, and how many.
func TestPackOne(t *testing.T) {
	for _, f := range right() {
		want := bytesOf(f)
		if b, e := Pack(f); !bytes.Equal(b, want) || e != api.OK {
			t.Errorf("Pack(%s) = %.60x, %d", cut(f), b, e)
		}
		if n, e := Size(f); n != len(want) || e != api.OK {
			t.Errorf("Size(%s) = %d, %d", cut(f), n, e)
		}
	}
}

// P3.1: one's bytes behind the other's.
func TestPackMany(t *testing.T) {
	if b, e := Pack(); len(b) != 0 || e != api.OK {
		t.Errorf("Pack() = %x, %d", b, e)
	}
	if n, e := Size(); n != 0 || e != api.OK {
		t.Errorf("Size() = %d, %d", n, e)
	}
	l := right()
	for i := range l {
		some := []api.Field{l[i], l[i*7%len(l)], l[i*11%len(l)]}
		want := bytesOf(some...)
		if b, e := Pack(some...); !bytes.Equal(b, want) || e != api.OK {
			t.Errorf("Pack(%s) = %.60x, %d", cut(some), b, e)
		}
		if n, e := Size(some...); n != len(want) || e != api.OK {
			t.Errorf("Size(%s) = %d, %d", cut(some), n, e)
		}
	}
	if b, e := Pack(l...); !bytes.Equal(b, bytesOf(l...)) || e != api.OK {
		t.Errorf("Pack of all: %d bytes, %d", len(b), e)
	}
	if n, e := Size(l...); n != len(bytesOf(l...)) || e != api.OK {
		t.Errorf("Size of all = %d, %d", n, e)
	}
}

// P3.1: one that may not be, wherever it stands.
func TestPackWrong(t *testing.T) {
	for _, f := range wrong() {
		for _, l := range [][]api.Field{{f}, {num(1), f}, {f, row([]byte("hi"))}, {truth(true), f, truth(true)}, {f, f}} {
			if b, e := Pack(l...); len(b) != 0 || e != 30 {
				t.Errorf("Pack(%s) = %x, %d", cut(l), b, e)
			}
			if n, e := Size(l...); n != 0 || e != 30 {
				t.Errorf("Size(%s) = %d, %d", cut(l), n, e)
			}
		}
	}
}

// P3.1: a row at its greatest length, and one byte past it.
func TestPackLongRow(t *testing.T) {
	b, e := Pack(row(make([]byte, 65536)))
	if e != api.OK || len(b) != 65539 || !bytes.Equal(b[:4], []byte{0x80, 0x80, 0x04, 0}) {
		t.Errorf("of 65536: %d bytes, %d", len(b), e)
	}
	if n, e := Size(row(make([]byte, 65536))); n != 65539 || e != api.OK {
		t.Errorf("Size of 65536: %d, %d", n, e)
	}
	if b, e := Pack(row(make([]byte, 65537))); len(b) != 0 || e != api.ErrField {
		t.Errorf("of 65537: %d bytes, %d", len(b), e)
	}
}

// P3.1: each part is held against its like, of fields that may not be as well.
func TestSame(t *testing.T) {
	l := append(short(), wrong()...)
	for i, a := range l {
		for _, j := range []int{i, i * 3 % len(l), i * 13 % len(l), i * 29 % len(l), len(l) - 1 - i} {
			b := l[j]
			if Same(a, b) != alike([]api.Field{a}, []api.Field{b}) {
				t.Errorf("Same(%s, %s) = %t", cut(a), cut(b), Same(a, b))
			}
		}
	}
	parts := []func(f *api.Field){
		func(f *api.Field) { f.Kind++ }, func(f *api.Field) { f.N++ }, func(f *api.Field) { f.I++ }, func(f *api.Field) { f.T = !f.T },
		func(f *api.Field) { f.B = append([]byte{7}, f.B...) }, func(f *api.Field) { f.V.Len++ }, func(f *api.Field) { f.V.Bits++ },
		func(f *api.Field) { f.K.Rank++ }, func(f *api.Field) { f.K.N++ }, func(f *api.Field) { f.R.ID++ },
		func(f *api.Field) { f.R.Key.Rank++ }, func(f *api.Field) { f.R.Key.N++ }, func(f *api.Field) { f.R.Vec.Len++ }, func(f *api.Field) { f.R.Vec.Bits++ },
	}
	for _, f := range l {
		for i, turn := range parts {
			x := f
			turn(&x)
			if Same(f, x) || Same(x, f) {
				t.Errorf("part %d of %s is not looked at", i, cut(f))
			}
		}
	}
}

func TestSameRows(t *testing.T) {
	tests := []struct {
		a, b []byte
		want bool
	}{
		{nil, nil, true}, {nil, []byte{}, true}, {[]byte{}, nil, true}, {[]byte{}, []byte{}, true}, {nil, []byte{0}, false},
		{[]byte{1, 2}, []byte{1, 2}, true}, {[]byte{1, 2}, []byte{1}, false}, {[]byte{1, 2}, []byte{1, 3}, false}, {[]byte{1, 2}, []byte{2, 1}, false},
	}
	for _, x := range tests {
		if g := Same(row(x.a), row(x.b)); g != x.want {
			t.Errorf("Same of rows %v, %v = %t", x.a, x.b, g)
		}
		if g := Same(row(x.b), row(x.a)); g != x.want {
			t.Errorf("Same of rows %v, %v = %t", x.b, x.a, g)
		}
	}
}

// P3.4: Unpack of Pack is the fields; First tells them, and how many bytes they have, whatever stands behind.
func TestThereAndBack(t *testing.T) {
	all := right()
	for i, f := range all {
		l := []api.Field{f, all[i*17%len(all)], f, all[i*5%len(all)]}[:1+i%4]
		b, e := Pack(l...)
		if e != api.OK {
			t.Fatal(e)
		}
		if g, n, e := Unpack(b, kindsOf(l)...); !alike(g, l) || n != 0 || e != api.OK {
			t.Errorf("Unpack(%.60x) = %s, %d, %d", b, cut(g), n, e)
		}
		for _, tail := range []string{"", "\x00", "\x80", "\xff\xff"} {
			if g, n, e := First(append(bytes.Clone(b), tail...), kindsOf(l)...); !alike(g, l) || n != len(b) || e != api.OK {
				t.Errorf("First(%.60x, and %x) = %s, %d, %d", b, tail, cut(g), n, e)
			}
		}
	}
	b, _ := Pack(all...)
	if g, n, e := Unpack(b, kindsOf(all)...); !alike(g, all) || n != 0 || e != api.OK {
		t.Errorf("Unpack of all: %d fields, %d, %d", len(g), n, e)
	}
}

// P3.5: keys' bytes stand in their order.
func TestOrder(t *testing.T) {
	rank := func(a, b api.Key) int {
		switch {
		case a == b:
			return 0
		case a.Rank < b.Rank || a.Rank == b.Rank && a.N < b.N:
			return -1
		}
		return 1
	}
	for _, a := range keys() {
		for _, b := range keys() {
			x, _ := Pack(ofKey(a))
			y, _ := Pack(ofKey(b))
			if bytes.Compare(x, y) != rank(a, b) {
				t.Errorf("%v and %v: %x and %x", a, b, x, y)
			}
		}
	}
}

// What is handed in stays as it was, and what is answered shares nothing with it.
func TestPackOwn(t *testing.T) {
	body := []byte("body")
	l := []api.Field{num(300), row(body), row(body)}
	b, _ := Pack(l...)
	twin, _ := Pack(l...)
	Size(l...)
	Same(l[1], l[2])
	if string(body) != "body" || !alike(l, []api.Field{num(300), row([]byte("body")), row([]byte("body"))}) {
		t.Errorf("what was handed in is %v", l)
	}
	clear(body)
	if string(b) != "\xac\x02\x04body\x04body" {
		t.Errorf("bytes are shared with a field: %q", b)
	}
	clear(b[:cap(b)])
	if string(twin) != "\xac\x02\x04body\x04body" || !bytes.Equal(body, make([]byte, 4)) {
		t.Errorf("bytes are shared with another answer, or a field: %q, %q", twin, body)
	}
	whole := bytes.Repeat([]byte{9}, 8)
	Pack(row(whole[:4]))
	if !bytes.Equal(whole, bytes.Repeat([]byte{9}, 8)) {
		t.Errorf("what stands behind a row is changed: %v", whole)
	}
}

// The example of the document.
func TestExample(t *testing.T) {
	b, e := Pack(whole(-1), vector(api.Vec{Len: 3, Bits: 5}), ofKey(at(258)))
	if string(b) != "\x01\x03\xa0\x02\x00\x00\x00\x00\x00\x00\x01\x02" || e != api.OK {
		t.Errorf("Pack = %x, %d", b, e)
	}
	if l, n, e := First([]byte{0x80, 0}, api.FNum); len(l) != 0 || n != 1 || e != api.ErrBytes {
		t.Errorf("First = %v, %d, %d", l, n, e)
	}
}
