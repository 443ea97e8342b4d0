package pack

import (
	"bytes"
	"encoding/binary"
	"math"
	"slices"
	"testing"

	"leapfrog/api"
)

// want holds what First and Unpack answer of b, read by kinds, against an error and its place.
func want(t *testing.T, b []byte, place int, want api.Errno, kinds ...api.FieldKind) {
	t.Helper()
	if l, n, e := First(b, kinds...); len(l) != 0 || n != place || e != want {
		t.Errorf("First(%.40x, %v) = %s, %d, %d; not %d, %d", b, kinds, cut(l), n, e, place, want)
	}
	if l, n, e := Unpack(b, kinds...); len(l) != 0 || n != place || e != want {
		t.Errorf("Unpack(%.40x, %v) = %s, %d, %d; not %d, %d", b, kinds, cut(l), n, e, place, want)
	}
}

// P3.2, P3.3: a kind that is none, wherever it stands, comes ahead of all faults of bytes.
func TestKindNone(t *testing.T) {
	for _, k := range wrongKinds() {
		for _, b := range [][]byte{nil, {}, {0}, {0, 0}, {1, 1, 1}, {0x80, 0}, {2}, {0x21}} {
			want(t, b, 0, 30, k)
			want(t, b, 0, 30, k, api.FBool)
			want(t, b, 0, 30, api.FBool, k)
			want(t, b, 0, 30, api.FNum, api.FVec, k, api.FNum)
		}
	}
}

// P3.2, P3.3: by no kinds nothing is read; what there is is left over.
func TestNoKinds(t *testing.T) {
	for _, b := range [][]byte{nil, {}, {0}, {0x80, 0}} {
		if l, n, e := First(b); len(l) != 0 || n != 0 || e != api.OK {
			t.Errorf("First(%x) = %v, %d, %d", b, l, n, e)
		}
		over := api.OK
		if len(b) > 0 {
			over = 33
		}
		if l, n, e := Unpack(b); len(l) != 0 || n != 0 || e != over {
			t.Errorf("Unpack(%x) = %v, %d, %d", b, l, n, e)
		}
	}
}

// P3.3: bytes that are left over, with the place of the first.
func TestOver(t *testing.T) {
	for _, f := range right() {
		b := bytesOf(f)
		for _, tail := range []string{"\x00", "\x80", "\xff\x00\x01", "\x01\x01"} {
			if l, n, e := Unpack(append(bytes.Clone(b), tail...), f.Kind); len(l) != 0 || n != len(b) || e != 33 {
				t.Errorf("Unpack(%.40x, and %x) = %s, %d, %d", b, tail, cut(l), n, e)
			}
		}
	}
	if l, n, e := Unpack([]byte{1, 0, 5, 6}, api.FBool, api.FNum); len(l) != 0 || n != 2 || e != 33 {
		t.Errorf("Unpack = %v, %d, %d", l, n, e)
	}
}

// P3.2, P3.3: bytes that end too early, at every place, alone and behind others.
func TestShort(t *testing.T) {
	ahead := []api.Field{num(300), truth(true), row([]byte("hi"))}
	first := bytesOf(ahead...)
	for _, f := range short() {
		b := bytesOf(f)
		for n := range b {
			want(t, b[:n], n, 32, f.Kind)
			want(t, b[:n], n, 32, f.Kind, api.FRef)
			want(t, append(bytes.Clone(first), b[:n]...), len(first)+n, 32, append(kindsOf(ahead), f.Kind)...)
		}
		want(t, b, len(b), 32, f.Kind, api.FBool)
	}
	long := bytesOf(row(make([]byte, api.MaxBytes)))
	for _, n := range []int{0, 1, 2, 3, 4, 1000, api.MaxBytes, len(long) - 1} {
		want(t, long[:n], n, 32, api.FBytes)
	}
}

// goOn are bytes that say that a number goes on, n of them.
func goOn(n int) [][]byte {
	var l [][]byte
	for _, c := range []byte{0x80, 0x81, 0xc0, 0xff} {
		l = append(l, bytes.Repeat([]byte{c}, n))
	}
	return l
}

// P3.2: numbers of one to ten bytes, with each last byte that there is: 0 may stand alone only, a tenth byte is 1.
func TestNumberBytes(t *testing.T) {
	for n := range 10 {
		for _, b := range goOn(n) {
			for c := range 256 {
				all := append(bytes.Clone(b), byte(c))
				for _, kind := range []api.FieldKind{api.FNum, api.FInt} {
					switch {
					case c == 0 && n > 0 || n == 9 && c != 1:
						want(t, all, n, 31, kind)
						want(t, append(all, 1, 1), n, 31, kind)
					case c >= 128:
						want(t, all, n+1, 32, kind)
					default:
						numberIs(t, all, kind)
					}
				}
			}
		}
	}
}

// numberIs holds a number's bytes, which may be, against what they are.
func numberIs(t *testing.T, b []byte, kind api.FieldKind) {
	t.Helper()
	f := api.Field{Kind: kind}
	if kind == api.FNum {
		f.N, _ = binary.Uvarint(b)
	} else {
		i, _ := binary.Varint(b)
		f.I = int(i)
	}
	if l, n, e := First(b, kind); !alike(l, []api.Field{f}) || n != len(b) || e != api.OK {
		t.Errorf("First(%x, %d) = %v, %d, %d", b, kind, l, n, e)
	}
}

// P3.2: ten bytes: the greatest number, the least int, and one past these.
func TestTenBytes(t *testing.T) {
	nine := bytes.Repeat([]byte{0xff}, 9)
	most := append(bytes.Clone(nine), 1)
	if l, n, e := First(most, api.FNum); !alike(l, []api.Field{num(math.MaxUint64)}) || n != 10 || e != api.OK {
		t.Errorf("First = %v, %d, %d", l, n, e)
	}
	if l, n, e := First(most, api.FInt); !alike(l, []api.Field{whole(math.MinInt)}) || n != 10 || e != api.OK {
		t.Errorf("First = %v, %d, %d", l, n, e)
	}
	for _, c := range []byte{0, 2, 3, 0x7f, 0x80, 0x81, 0xff} {
		want(t, append(bytes.Clone(nine), c), 9, 31, api.FNum)
		want(t, append(bytes.Clone(nine), c, 0), 9, 31, api.FInt)
		want(t, append(append([]byte{7}, nine...), c), 10, 31, api.FInt, api.FNum)
	}
}

// P3.2: a truth is a byte 0 or 1.
func TestTruthBytes(t *testing.T) {
	for c := range 256 {
		b := []byte{byte(c), 9}
		if c > 1 {
			want(t, b, 0, 31, api.FBool)
			want(t, b[:1], 0, 31, api.FBool)
		} else if l, n, e := First(b, api.FBool); !alike(l, []api.Field{truth(c == 1)}) || n != 1 || e != api.OK {
			t.Errorf("First(%x) = %v, %d, %d", b, l, n, e)
		}
	}
}

// P3.2: a row's length: the place is the first that no bytes of a length from 0 to MaxBytes have.
func TestRowLength(t *testing.T) {
	begins := map[string]bool{}
	for n := range api.MaxBytes + 1 {
		b := binary.AppendUvarint(nil, uint64(n))
		for i := range len(b) + 1 {
			begins[string(b[:i])] = true
		}
	}
	some := []byte{0, 1, 2, 3, 4, 5, 8, 0x7e, 0x7f, 0x80, 0x81, 0x82, 0x83, 0x84, 0x85, 0xfe, 0xff}
	for _, x := range some {
		for _, y := range some {
			for z := range 256 {
				b := []byte{x, y, byte(z)}
				n, ended := 0, false
				for n < 3 && !ended && begins[string(b[:n+1])] {
					n++
					ended = b[n-1] < 128
				}
				if !ended {
					want(t, b, n, 31, api.FBytes)
					want(t, b[:n+1], n, 31, api.FBytes)
				} else {
					rowIs(t, b[:n])
				}
			}
		}
	}
}

// rowIs holds the row that has a length against that length.
func rowIs(t *testing.T, length []byte) {
	t.Helper()
	n, _ := binary.Uvarint(length)
	body := bytes.Repeat([]byte{0xa5}, int(n))
	b := append(bytes.Clone(length), body...)
	if l, size, e := First(append(b, 1, 2), api.FBytes); !alike(l, []api.Field{row(body)}) || size != len(b) || e != api.OK {
		t.Errorf("a row of %d bytes: %d fields, %d, %d", n, len(l), size, e)
	}
	if n > 0 {
		want(t, b[:len(b)-1], len(b)-1, 32, api.FBytes)
	}
}

// P3.2: the edge of a row's length: MaxBytes, one more, and lengths of four bytes.
func TestRowLong(t *testing.T) {
	rowIs(t, []byte{0x80, 0x80, 4})
	rowIs(t, []byte{0xff, 0xff, 3})
	body := make([]byte, api.MaxBytes+9)
	for _, length := range [][]byte{{0x81, 0x80, 4}, {0x80, 0x81, 4}, {0xff, 0xff, 4}, {0x80, 0x80, 5}, {0x80, 0x80, 0x7f}, {0x80, 0x80, 0x80}, {0x80, 0x80, 0x81, 1}, {0x80, 0x80, 0x84, 0}, {0xff, 0xff, 0xff, 0xff, 0xff, 0xff, 0xff, 0xff, 0xff, 1}, {0x80, 0x80, 0}} {
		want(t, append(bytes.Clone(length), body...), 2, 31, api.FBytes)
		want(t, length, 2, 31, api.FBytes)
	}
	want(t, []byte{0x80, 0}, 1, 31, api.FBytes)
	want(t, []byte{5, 0x80, 0x80, 0x80}, 3, 31, api.FNum, api.FBytes)
}

// P3.2: a vector's length, and its last byte, behind whose bits are zeros.
func TestVectorBytes(t *testing.T) {
	for length := range 256 {
		if length > api.MaxVec {
			want(t, []byte{byte(length)}, 0, 31, api.FVec)
			want(t, []byte{byte(length), 0, 0, 0, 0, 0, 0}, 0, 31, api.FVec)
			continue
		}
		n := (length + 7) / 8
		for c := range 256 {
			if n == 0 {
				break
			}
			b := append([]byte{byte(length)}, bytes.Repeat([]byte{0xb7}, n)...)
			b[n] = byte(c)
			if c%(1<<(8*n-length)) != 0 {
				want(t, b, n, 31, api.FVec)
				want(t, append(b, 0), n, 31, api.FVec)
				continue
			}
			l, size, e := First(append(b, 0xff), api.FVec)
			if len(l) != 1 || l[0].V.Len != length || !bytes.Equal(bytesOf(l...), b) || size != n+1 || e != api.OK {
				t.Errorf("First(%x) = %v, %d, %d", b, l, size, e)
			}
		}
	}
	if l, n, e := First([]byte{0, 0xff}, api.FVec); !alike(l, []api.Field{vector(api.Vec{})}) || n != 1 || e != api.OK {
		t.Errorf("of no bits: %v, %d, %d", l, n, e)
	}
}

// P3.2: a key's rank; the ends have no more bytes, a number has eight.
func TestKeyBytes(t *testing.T) {
	for c := range 256 {
		b := []byte{byte(c), 1, 2, 3, 4, 5, 6, 7, 8, 9}
		l, n, e := First(b, api.FKey)
		switch api.Rank(c) {
		case api.RLow, api.RHigh:
			if !alike(l, []api.Field{ofKey(api.Key{Rank: api.Rank(c)})}) || n != 1 || e != api.OK {
				t.Errorf("First(%x) = %v, %d, %d", b, l, n, e)
			}
		case api.RAt:
			if !alike(l, []api.Field{ofKey(at(0x0102030405060708))}) || n != 9 || e != api.OK {
				t.Errorf("First(%x) = %v, %d, %d", b, l, n, e)
			}
		default:
			want(t, b, 0, 31, api.FKey)
			want(t, b[:1], 0, 31, api.FKey)
		}
	}
}

// P3.2: a fault in each part of a reference.
func TestRefBytes(t *testing.T) {
	good := bytesOf(ofRef(api.Ref{ID: 100, Key: at(7), Vec: api.Vec{Len: 11, Bits: 5}}))
	if len(good) != 14 {
		t.Fatalf("%x", good)
	}
	tests := []struct {
		place int
		c     byte
	}{{1, 0}, {2, 0}, {2, 4}, {2, 0x82}, {11, 33}, {11, 0x8b}, {13, 0xa1}, {13, 0xb0}}
	for _, x := range tests {
		b := bytes.Clone(good)
		b[x.place] = x.c
		want(t, b, x.place, 31, api.FRef)
		want(t, b[:x.place+1], x.place, 31, api.FRef)
		want(t, append([]byte{1}, b...), x.place+1, 31, api.FBool, api.FRef)
	}
}

// P3.2: the first fault is told, not a later one; a fault ahead of the end comes ahead of the end.
func TestFirstFault(t *testing.T) {
	want(t, []byte{2, 2, 2}, 0, 31, api.FBool, api.FBool)
	want(t, []byte{1, 2, 2}, 1, 31, api.FBool, api.FBool, api.FBool)
	want(t, []byte{0x80, 0, 2}, 1, 31, api.FNum, api.FBool)
	want(t, []byte{0x21}, 0, 31, api.FVec)
	want(t, []byte{9, 0xff}, 2, 32, api.FVec)
	want(t, []byte{9, 0xff, 1}, 2, 31, api.FVec, api.FNum)
	want(t, []byte{4, 1, 2}, 3, 32, api.FBytes)
	want(t, nil, 0, 32, api.FNum)
	want(t, []byte{2}, 0, 31, api.FBool, api.FRef, api.FRef)
}

// isShort tells whether b is the beginning of bytes of fields of these kinds, as First tells it.
func isShort(b []byte, kinds []api.FieldKind) bool {
	_, n, e := First(b, kinds...)
	return e == api.ErrShort && n == len(b)
}

// zeros is b with as many zeros behind it as leave it too short.
func zeros(b []byte, kinds []api.FieldKind) []byte {
	for n := api.MaxBytes; n > 0; n /= 2 {
		if more := append(bytes.Clone(b), make([]byte, n)...); isShort(more, kinds) {
			b = more
		}
	}
	return b
}

// completed is b with bytes behind it that make it those of fields of these kinds; false: none are found.
func completed(b []byte, kinds []api.FieldKind) ([]byte, bool) {
	// A copy: behind b there is more of what the test was given.
	b = bytes.Clone(b)
	for isShort(b, kinds) {
		b = append(zeros(b, kinds), 0)
		for c := range 256 {
			b[len(b)-1] = byte(c)
			if _, _, e := First(b, kinds...); e != api.ErrBytes {
				break
			}
		}
	}
	l, n, e := First(b, kinds...)
	return b, n == len(b) && bytes.Equal(bytesOf(l...), b) && e == api.OK
}

// P3.2, P3.4: of bytes that were turned: what First tells has just these bytes; up to the place of a fault they are the beginning of fields' bytes, and with it no more.
func TestTurnedBytes(t *testing.T) {
	l := short()
	for i := 0; i < len(l); i += 3 {
		some := []api.Field{l[i], l[i*31%len(l)]}
		kinds := kindsOf(some)
		good := bytesOf(some...)
		for place := range good {
			for _, c := range []byte{0, 1, 2, 3, 4, 32, 33, 0x7f, 0x80, 0x81, 0xff, good[place] + 1, good[place] ^ 128} {
				b := bytes.Clone(good)
				b[place] = c
				turned(t, b, kinds)
			}
		}
	}
}

// turned holds what First tells of b against what must hold of any bytes.
func turned(t *testing.T, b []byte, kinds []api.FieldKind) {
	t.Helper()
	l, n, e := First(b, kinds...)
	switch e {
	case api.OK:
		if g, e := Pack(l...); !slices.Equal(kindsOf(l), kinds) || !bytes.Equal(g, b[:n]) || !bytes.Equal(bytesOf(l...), b[:n]) || e != api.OK {
			t.Errorf("First(%.40x) = %s, %d: these have other bytes", b, cut(l), n)
		}
	case api.ErrShort:
		if len(l) != 0 || n != len(b) {
			t.Errorf("First(%.40x) = %v, %d, short", b, l, n)
		}
	case api.ErrBytes:
		if len(l) != 0 || n >= len(b) {
			t.Fatalf("First(%.40x) = %v, %d, %d", b, l, n, e)
		}
		if full, is := completed(b[:n], kinds); !is {
			t.Errorf("First(%.40x): at %d, but no fields begin so: %.40x", b, n, full)
		}
		want(t, b[:n+1], n, api.ErrBytes, kinds...)
	default:
		t.Errorf("First(%.40x) = %d", b, e)
	}
}

// Bytes that are handed in stay as they were; rows that are answered share nothing with them, or with each other.
func TestReadOwn(t *testing.T) {
	b := []byte("\x02hi\x02ho\x00\x02hu")
	kept := bytes.Clone(b)
	kinds := []api.FieldKind{api.FBytes, api.FBytes, api.FBytes, api.FBytes}
	l, _, e := Unpack(b, kinds...)
	twin, n, e2 := First(b, kinds...)
	if e != api.OK || e2 != api.OK || n != len(b) || !bytes.Equal(b, kept) {
		t.Fatalf("%d, %d, %d, %q", e, e2, n, b)
	}
	if !slices.Equal(kinds, []api.FieldKind{api.FBytes, api.FBytes, api.FBytes, api.FBytes}) {
		t.Errorf("kinds are changed: %v", kinds)
	}
	clear(b)
	for _, f := range l {
		clear(f.B[:cap(f.B)])
	}
	if !alike(twin, []api.Field{row([]byte("hi")), row([]byte("ho")), row(nil), row([]byte("hu"))}) {
		t.Errorf("memory is shared: %v", twin)
	}
	copy(b, kept)
	for i, f := range twin {
		x := append(f.B, '!', '!', '!')
		clear(x)
		clear(f.B[:cap(f.B)])
		for _, g := range twin[i+1:] {
			if len(g.B) > 0 && g.B[0] != 'h' {
				t.Errorf("row %d shares memory with another one", i)
			}
		}
	}
	if !bytes.Equal(b, kept) {
		t.Errorf("rows share memory with the bytes: %q", b)
	}
}

// No bytes make a call panic, and all it tells of them holds.
func FuzzFirst(f *testing.F) {
	f.Add([]byte("\x01\x03\xa0\x02\x00\x00\x00\x00\x00\x00\x01\x02"), []byte{2, 5, 6})
	f.Add([]byte("\x80\x00"), []byte{1})
	f.Add([]byte("\x80\x80\x04"), []byte{4, 7})
	f.Fuzz(func(t *testing.T, b, k []byte) {
		var kinds []api.FieldKind
		for _, c := range k {
			kinds = append(kinds, api.FieldKind(1+(int(c)+6)%7))
		}
		if len(kinds) > 8 {
			kinds = kinds[:8]
		}
		turned(t, b, kinds)
	})
}
