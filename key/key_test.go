package key

import (
	"bytes"
	"encoding/binary"
	"fmt"
	"math"
	"math/big"
	"slices"
	"strings"
	"testing"

	"leapfrog/api"
)

// The tests hold keys against whole numbers without bound, so that no call of the package is tested by another one.

var low, high = api.Key{Rank: api.RLow}, api.Key{Rank: api.RHigh}

// numbers are some of 64 bits: the least, the greatest, and those about each byte's end.
func numbers() []uint64 {
	l := []uint64{0, 1, 2, 3, 7, 9, 10, 11, 99, 100, 101, 0x0102030405060708, 0xf0e0d0c0b0a09080,
		math.MaxUint64 - 1, math.MaxUint64, 1<<63 - 1, 1 << 63, 1<<63 + 1, 9999999999999999999, 10000000000000000000}
	for bits := 8; bits < 64; bits += 8 {
		l = append(l, 1<<bits-1, 1<<bits, 1<<bits+1)
	}
	return l
}

// right are keys that may be, rising, each once.
func right() []api.Key {
	l := []api.Key{low}
	n := numbers()
	slices.Sort(n)
	for _, x := range slices.Compact(n) {
		l = append(l, api.Key{Rank: api.RAt, N: x})
	}
	return append(l, high)
}

// wrong are keys that may not be: ends with a number, and ranks that are none of the three.
func wrong() []api.Key {
	var l []api.Key
	for _, r := range []api.Rank{api.RLow, api.RHigh} {
		for _, n := range []uint64{1, 2, 256, 1 << 63, math.MaxUint64} {
			l = append(l, api.Key{Rank: r, N: n})
		}
	}
	for _, r := range []api.Rank{0, 4, 5, -1, -2, -3, 255, 256, 257, 258, 259, 1 << 32, 1<<32 + 1, 1<<32 + 2, math.MinInt, math.MaxInt} {
		for _, n := range []uint64{0, 1, math.MaxUint64} {
			l = append(l, api.Key{Rank: r, N: n})
		}
	}
	return l
}

func all() []api.Key { return append(right(), wrong()...) }

// spot is where a key stands on the line of all whole numbers.
func spot(k api.Key) *big.Int {
	x := new(big.Int).Lsh(big.NewInt(int64(k.Rank)), 64)
	return x.Add(x, new(big.Int).SetUint64(k.N))
}

func isRight(k api.Key) bool { return slices.Contains(right(), k) }

// P2.1: a key may be, or not.
func TestCheck(t *testing.T) {
	for _, k := range right() {
		if e := Check(k); e != api.OK {
			t.Errorf("Check(%v) = %d", k, e)
		}
	}
	for _, k := range wrong() {
		if e := Check(k); e != 20 {
			t.Errorf("Check(%v) = %d", k, e)
		}
	}
}

// P2.1: which of any two stands ahead, of keys that may not be too.
func TestCompareLess(t *testing.T) {
	for _, a := range all() {
		for _, b := range all() {
			want := spot(a).Cmp(spot(b))
			if c := Compare(a, b); c != want {
				t.Errorf("Compare(%v, %v) = %d", a, b, c)
			}
			if is := Less(a, b); is != (want == -1) {
				t.Errorf("Less(%v, %v) = %t", a, b, is)
			}
		}
	}
}

// P2.1: RLow is the least, RHigh the greatest, and numbers stand between them as they rise.
func TestEnds(t *testing.T) {
	l := right()
	for i, a := range l {
		for j, b := range l {
			if Less(a, b) != (i < j) {
				t.Errorf("Less(%v, %v)", a, b)
			}
		}
	}
}

// P2.2: the keys beside one, by sums.
func TestNextPrev(t *testing.T) {
	one := func(n uint64) api.Key { return api.Key{Rank: api.RAt, N: n} }
	for _, n := range numbers() {
		next, prev := one(n+1), one(n-1)
		if n == math.MaxUint64 {
			next = high
		}
		if n == 0 {
			prev = low
		}
		if k, ok := Next(one(n)); k != next || !ok {
			t.Errorf("Next(%d) = %v, %t", n, k, ok)
		}
		if k, ok := Prev(one(n)); k != prev || !ok {
			t.Errorf("Prev(%d) = %v, %t", n, k, ok)
		}
	}
	if k, ok := Next(low); k != one(0) || !ok {
		t.Errorf("Next(low) = %v, %t", k, ok)
	}
	if k, ok := Prev(high); k != one(math.MaxUint64) || !ok {
		t.Errorf("Prev(high) = %v, %t", k, ok)
	}
}

// P2.2: at the ends, and of keys that may not be, there is none.
func TestNoNextNoPrev(t *testing.T) {
	for _, k := range append(wrong(), high) {
		if x, ok := Next(k); x != (api.Key{}) || ok {
			t.Errorf("Next(%v) = %v, %t", k, x, ok)
		}
	}
	for _, k := range append(wrong(), low) {
		if x, ok := Prev(k); x != (api.Key{}) || ok {
			t.Errorf("Prev(%v) = %v, %t", k, x, ok)
		}
	}
}

// P2.2: of any three keys, the ends of the row with it; of a low above its high none is in.
func TestIn(t *testing.T) {
	for _, a := range all() {
		for _, k := range all() {
			for _, b := range all() {
				want := spot(k).Cmp(spot(a)) >= 0 && spot(k).Cmp(spot(b)) <= 0
				if In(a, k, b) != want {
					t.Fatalf("In(%v, %v, %v) = %t", a, k, b, !want)
				}
			}
		}
	}
}

// shuffled is a row gone through by a stride; some keys may come more than once, others not at all.
func shuffled(l []api.Key, stride int) []api.Key {
	out := make([]api.Key, len(l))
	for i := range l {
		out[i] = l[i*stride%len(l)]
	}
	return out
}

// P2.3: rising, each once, whatever the order, and however often a key is handed in.
func TestSorted(t *testing.T) {
	l := right()
	for stride := range 2 * len(l) {
		in := append(shuffled(l, stride), l...)
		kept := slices.Clone(in)
		out := Sorted(in...)
		if !slices.Equal(out, l) {
			t.Fatalf("stride %d: %v", stride, out)
		}
		out[0] = api.Key{Rank: 77}
		if !slices.Equal(in, kept) {
			t.Fatalf("stride %d: what was handed in is changed, or shared", stride)
		}
	}
}

// P2.3: keys that may not be have their places, too.
func TestSortedAny(t *testing.T) {
	l := append(wrong(), right()...)
	slices.Reverse(l)
	out := Sorted(append(l, wrong()...)...)
	if len(out) != len(l) {
		t.Fatalf("%d keys of %d", len(out), len(l))
	}
	for i := range out[1:] {
		if spot(out[i]).Cmp(spot(out[i+1])) >= 0 {
			t.Errorf("%v ahead of %v", out[i], out[i+1])
		}
	}
	for _, k := range l {
		if !slices.Contains(out, k) {
			t.Errorf("%v is lost", k)
		}
	}
}

func TestSortedFew(t *testing.T) {
	if l := Sorted(); len(l) != 0 {
		t.Errorf("of none: %v", l)
	}
	if l := Sorted([]api.Key{}...); len(l) != 0 {
		t.Errorf("of an empty row: %v", l)
	}
	if l := Sorted(high); !slices.Equal(l, []api.Key{high}) {
		t.Errorf("of one: %v", l)
	}
	if l := Sorted(low, low, low); !slices.Equal(l, []api.Key{low}) {
		t.Errorf("of one thrice: %v", l)
	}
	one := []api.Key{low, high}
	out := Sorted(one...)
	out[0] = high
	if one[0] != low {
		t.Error("a row that rises is handed back")
	}
}

// P2.3: in rows that rise, rows that do not, and rows with keys twice.
func TestPlace(t *testing.T) {
	rising := right()
	falling := slices.Clone(rising)
	slices.Reverse(falling)
	some := []api.Key{rising[4], low, rising[9], rising[9], high, rising[2], low}
	for _, l := range [][]api.Key{rising, falling, some, all(), shuffled(all(), 17), {rising[5]}, {}, nil} {
		kept := slices.Clone(l)
		for _, k := range all() {
			below := 0
			for _, x := range l {
				if spot(x).Cmp(spot(k)) < 0 {
					below++
				}
			}
			if n, there := Place(l, k); n != below || there != slices.Contains(l, k) {
				t.Errorf("Place(%v, %v) = %d, %t", l, k, n, there)
			}
		}
		if !slices.Equal(l, kept) {
			t.Error("the row is changed")
		}
	}
}

// textOf is a key's text.
func textOf(k api.Key) string {
	switch k {
	case low:
		return "-"
	case high:
		return "+"
	}
	return fmt.Sprint(k.N)
}

// bytesOf are a key's bytes.
func bytesOf(k api.Key) []byte {
	b := make([]byte, 9)
	b[0] = byte(k.Rank)
	binary.BigEndian.PutUint64(b[1:], k.N)
	return b
}

// P2.4, P2.7: texts and bytes, there and back.
func TestForms(t *testing.T) {
	for _, k := range right() {
		if s, e := Text(k); s != textOf(k) || e != api.OK {
			t.Errorf("Text(%v) = %q, %d", k, s, e)
		}
		if x, e := Parse(textOf(k)); x != k || e != api.OK {
			t.Errorf("Parse(%q) = %v, %d", textOf(k), x, e)
		}
		if b, e := Bytes(k); !bytes.Equal(b, bytesOf(k)) || e != api.OK {
			t.Errorf("Bytes(%v) = %v, %d", k, b, e)
		}
		if x, e := Read(bytesOf(k)); x != k || e != api.OK {
			t.Errorf("Read(%v) = %v, %d", bytesOf(k), x, e)
		}
	}
}

// P2.4: a key that may not be has no text and no bytes.
func TestNoForms(t *testing.T) {
	for _, k := range wrong() {
		if s, e := Text(k); s != "" || e != api.ErrKey {
			t.Errorf("Text(%v) = %q, %d", k, s, e)
		}
		if b, e := Bytes(k); len(b) != 0 || e != api.ErrKey {
			t.Errorf("Bytes(%v) = %v, %d", k, b, e)
		}
	}
}

// P2.4: texts that are no key's.
func TestParseWrong(t *testing.T) {
	l := []string{
		"", " ", "--", "++", "-+", "+-", "- ", " -", "+ ", " +", "-0", "+0", "-1", "+1", "0-", "1+", "−", "+\x00", "-\n",
		"00", "01", "007", "000", "0000000000000000001", "00000000000000000000", "018446744073709551615",
		"18446744073709551616", "18446744073709551620", "18446744073709551715", "20000000000000000000",
		"28446744073709551615", "99999999999999999999", "100000000000000000000", "184467440737095516150",
		"1 ", " 1", "1\n", "\t1", "1_000", "1,000", "1.0", "1.", ".1", "1e3", "0x10", "0b1", "0o7", "x", "a", "1a", "a1",
		"/", ":", "1/", "1:", "٣", "１", "²", "\x00", "1\x00", "\xff", "NaN", "Inf", strings.Repeat("9", 100000), strings.Repeat("0", 100000),
	}
	for _, s := range l {
		if k, e := Parse(s); k != (api.Key{}) || e != api.ErrKey {
			t.Errorf("Parse(%.30q) = %v, %d", s, k, e)
		}
	}
}

// P2.4: of all texts of at most two bytes, those are keys' that are an end's sign or digits without a zero ahead.
func TestParseShort(t *testing.T) {
	keys := map[string]api.Key{"-": low, "+": high}
	for n := range 100 {
		keys[fmt.Sprint(n)] = api.Key{Rank: api.RAt, N: uint64(n)}
	}
	try := func(s string) {
		want, is := keys[s]
		if k, e := Parse(s); k != want || (e == api.OK) != is || e != api.OK && e != api.ErrKey {
			t.Errorf("Parse(%q) = %v, %d", s, k, e)
		}
	}
	for a := range 256 {
		try(string([]byte{byte(a)}))
		for b := range 256 {
			try(string([]byte{byte(a), byte(b)}))
		}
	}
}

// P2.4: bytes that are no key's: too few, too many, another rank, an end with a number.
func TestReadWrong(t *testing.T) {
	var l [][]byte
	for _, k := range right() {
		b := bytesOf(k)
		for n := range b {
			l = append(l, b[:n])
		}
		l = append(l, append(bytesOf(k), 0), append(bytesOf(k), bytesOf(k)...))
		for r := range 256 {
			x := append([]byte{byte(r)}, b[1:]...)
			if !isRight(api.Key{Rank: api.Rank(r), N: k.N}) {
				l = append(l, x)
			}
		}
	}
	for place := 1; place < 9; place++ {
		for _, k := range []api.Key{low, high} {
			for _, c := range []byte{1, 128, 255} {
				b := bytesOf(k)
				b[place] = c
				l = append(l, b)
			}
		}
	}
	for _, b := range append(l, nil, []byte{}, make([]byte, 9), make([]byte, 1<<16)) {
		if k, e := Read(b); k != (api.Key{}) || e != api.ErrKey {
			t.Errorf("Read(%.12v) = %v, %d", b, k, e)
		}
	}
}

// P2.4: bytes are neither changed nor kept, and an answer's are its own.
func TestBytesOwn(t *testing.T) {
	for _, k := range right() {
		a, _ := Bytes(k)
		b, _ := Bytes(k)
		for i := range a {
			a[i] ^= 255
		}
		if c, _ := Bytes(k); !bytes.Equal(b, bytesOf(k)) || !bytes.Equal(c, bytesOf(k)) {
			t.Errorf("Bytes(%v): two answers share memory", k)
		}
		if _, e := Read(b); e != api.OK || !bytes.Equal(b, bytesOf(k)) {
			t.Errorf("Read changes what it is handed: %v", b)
		}
	}
}

// P2.5: each two are alike, or one of them is ahead; what is ahead of what is ahead is ahead.
func TestOrder(t *testing.T) {
	l := all()
	for _, a := range l {
		for _, b := range l {
			if Compare(a, b) != -Compare(b, a) || (Compare(a, b) == 0) != (a == b) {
				t.Errorf("Compare(%v, %v) = %d, turned %d", a, b, Compare(a, b), Compare(b, a))
			}
			for _, c := range l {
				if Less(a, b) && Less(b, c) && !Less(a, c) {
					t.Fatalf("%v, %v, %v do not rise", a, b, c)
				}
			}
		}
	}
}

// P2.6: between a key and its Next there is none, and Prev of Next is the key.
func TestNoneBetween(t *testing.T) {
	tries := right()
	for _, k := range right() {
		if n, ok := Next(k); ok {
			tries = append(tries, n)
		}
		if p, ok := Prev(k); ok {
			tries = append(tries, p)
		}
	}
	for _, k := range tries {
		if n, ok := Next(k); ok {
			if Check(n) != api.OK || !Less(k, n) {
				t.Errorf("Next(%v) = %v", k, n)
			}
			if back, ok := Prev(n); back != k || !ok {
				t.Errorf("Prev(Next(%v)) = %v, %t", k, back, ok)
			}
			for _, x := range tries {
				if Less(k, x) && Less(x, n) {
					t.Errorf("%v is between %v and its Next", x, k)
				}
			}
		} else if k != high {
			t.Errorf("%v has no Next", k)
		}
		if p, ok := Prev(k); ok {
			if back, ok := Next(p); back != k || !ok {
				t.Errorf("Next(Prev(%v)) = %v, %t", k, back, ok)
			}
		} else if k != low {
			t.Errorf("%v has no Prev", k)
		}
	}
}

// P2.7: Parse of Text and Read of Bytes are the key, and the bytes of two keys are in their order.
func TestThereAndBack(t *testing.T) {
	for _, a := range right() {
		s, _ := Text(a)
		if k, e := Parse(s); k != a || e != api.OK {
			t.Errorf("Parse(Text(%v)) = %v, %d", a, k, e)
		}
		x, _ := Bytes(a)
		if k, e := Read(x); k != a || e != api.OK {
			t.Errorf("Read(Bytes(%v)) = %v, %d", a, k, e)
		}
		for _, b := range right() {
			y, _ := Bytes(b)
			if bytes.Compare(x, y) != Compare(a, b) {
				t.Errorf("the bytes of %v and %v are not in their order", a, b)
			}
		}
	}
}

// The example of the document.
func TestExample(t *testing.T) {
	if k, ok := Next(low); textOf(k) != "0" || k.Rank != api.RAt || !ok {
		t.Errorf("Next(low) = %v, %t", k, ok)
	}
	if k, ok := Next(api.Key{Rank: api.RAt, N: 18446744073709551615}); k != high || !ok {
		t.Errorf("Next of the greatest number = %v, %t", k, ok)
	}
	if s, e := Text(high); s != "+" || e != api.OK {
		t.Errorf("Text(high) = %q, %d", s, e)
	}
	if k, e := Parse("007"); k != (api.Key{}) || e != api.ErrKey {
		t.Errorf("Parse(007) = %v, %d", k, e)
	}
}
