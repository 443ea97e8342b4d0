package vec

import (
	"math"
	"strings"
	"testing"

	"leapfrog/api"
)

// The tests hold vectors against rows of '0' and '1', so that no call of the package is tested by another one.

// ofRow is the vector of a row, worked out by sums alone.
func ofRow(row string) api.Vec {
	v := api.Vec{Len: len(row)}
	for _, c := range row {
		v.Bits = 2*v.Bits + uint64(c-'0')
	}
	return v
}

// rows are all of at most n bits.
func rows(n int) []string {
	l := []string{""}
	for i := 0; i < len(l); i++ {
		if len(l[i]) < n {
			l = append(l, l[i]+"0", l[i]+"1")
		}
	}
	return l
}

// longRows are some at the longest length and one below it, which differ in few places.
func longRows() []string {
	zero, one := strings.Repeat("0", 32), strings.Repeat("1", 32)
	return []string{
		zero, one, zero[:31], one[:31], zero[:31] + "1", one[:31] + "0", "1" + zero[:31], "0" + one[:31],
		strings.Repeat("01", 16), strings.Repeat("10", 16), strings.Repeat("0110", 8),
	}
}

func allRows() []string { return append(rows(5), longRows()...) }

// wrong are vectors that may not be.
func wrong() []api.Vec {
	return []api.Vec{
		{Len: -1}, {Len: -1, Bits: 1}, {Len: math.MinInt}, {Len: -64, Bits: math.MaxUint64},
		{Len: 33}, {Len: 33, Bits: 1}, {Len: 64, Bits: 1}, {Len: 65}, {Len: math.MaxInt, Bits: 7},
		{Len: 0, Bits: 1}, {Len: 0, Bits: math.MaxUint64}, {Len: 1, Bits: 2}, {Len: 2, Bits: 4}, {Len: 3, Bits: 9},
		{Len: 31, Bits: 1 << 31}, {Len: 32, Bits: 1 << 32}, {Len: 32, Bits: 1 << 63}, {Len: 32, Bits: math.MaxUint64},
	}
}

// outside are places that are below 0 or above n.
func outside(n int) []int {
	return []int{-1, -2, -64, math.MinInt, n + 1, n + 2, n + 64, math.MaxInt}
}

func TestRight(t *testing.T) {
	for _, r := range allRows() {
		if e := Right(ofRow(r)); e != api.OK {
			t.Errorf("Right(%q) = %d", r, e)
		}
	}
	for _, v := range wrong() {
		if e := Right(v); e != api.ErrVec {
			t.Errorf("Right(%v) = %d", v, e)
		}
	}
}

// P1.1: every bit, prefix, rest and turned bit.
func TestBitPrefixRestFlip(t *testing.T) {
	for _, r := range allRows() {
		v := ofRow(r)
		for i := range len(r) {
			if b, e := Bit(v, i); b != int(r[i]-'0') || e != api.OK {
				t.Errorf("Bit(%q, %d) = %d, %d", r, i, b, e)
			}
			turned := r[:i] + string('0'+'1'-r[i]) + r[i+1:]
			if f, e := Flip(v, i); f != ofRow(turned) || e != api.OK {
				t.Errorf("Flip(%q, %d) = %v, %d", r, i, f, e)
			}
		}
		for n := range len(r) + 1 {
			if p, e := Prefix(v, n); p != ofRow(r[:n]) || e != api.OK {
				t.Errorf("Prefix(%q, %d) = %v, %d", r, n, p, e)
			}
			if p, e := Rest(v, n); p != ofRow(r[n:]) || e != api.OK {
				t.Errorf("Rest(%q, %d) = %v, %d", r, n, p, e)
			}
		}
	}
}

// P1.1: places at, and one past, their ends; a wrong vector comes ahead of a wrong place.
func TestPlacesOutside(t *testing.T) {
	wantCut := func(v api.Vec, n int, want api.Errno) {
		if p, e := Prefix(v, n); p != (api.Vec{}) || e != want {
			t.Errorf("Prefix(%v, %d) = %v, %d", v, n, p, e)
		}
		if p, e := Rest(v, n); p != (api.Vec{}) || e != want {
			t.Errorf("Rest(%v, %d) = %v, %d", v, n, p, e)
		}
	}
	wantBit := func(v api.Vec, i int, want api.Errno) {
		if b, e := Bit(v, i); b != 0 || e != want {
			t.Errorf("Bit(%v, %d) = %d, %d", v, i, b, e)
		}
		if f, e := Flip(v, i); f != (api.Vec{}) || e != want {
			t.Errorf("Flip(%v, %d) = %v, %d", v, i, f, e)
		}
	}
	for _, r := range allRows() {
		v := ofRow(r)
		wantBit(v, v.Len, api.ErrRange)
		for _, n := range outside(v.Len) {
			wantBit(v, n, api.ErrRange)
			wantCut(v, n, api.ErrRange)
		}
	}
	for _, v := range wrong() {
		for _, n := range append(outside(v.Len), 0, 1, v.Len) {
			wantBit(v, n, api.ErrVec)
			wantCut(v, n, api.ErrVec)
		}
	}
}

// P1.2: all bits, one vector's behind the other's.
func TestJoin(t *testing.T) {
	if j, e := Join(); j != (api.Vec{}) || e != api.OK {
		t.Errorf("Join() = %v, %d", j, e)
	}
	small := rows(3)
	for _, a := range small {
		for _, b := range small {
			for _, c := range small {
				if j, e := Join(ofRow(a), ofRow(b), ofRow(c)); j != ofRow(a+b+c) || e != api.OK {
					t.Errorf("Join(%q, %q, %q) = %v, %d", a, b, c, j, e)
				}
			}
		}
	}
	l := []api.Vec{ofRow("10"), ofRow("01")}
	if j, e := Join(l...); j != ofRow("1001") || e != api.OK || l[0] != ofRow("10") || l[1] != ofRow("01") {
		t.Errorf("Join of a list = %v, %d; the list: %v", j, e, l)
	}
}

// P1.2: 32 bits in all may be, 33 may not; a wrong vector, wherever it stands, comes ahead of too many bits.
func TestJoinLong(t *testing.T) {
	full, most, one := ofRow(strings.Repeat("01", 16)), ofRow(strings.Repeat("1", 31)), ofRow("1")
	none := api.Vec{}
	may := [][]api.Vec{{full}, {none, full, none}, {most, one}, {one, most}}
	for _, l := range may {
		if j, e := Join(l...); j.Len != 32 || e != api.OK {
			t.Errorf("Join(%v) = %v, %d", l, j, e)
		}
	}
	singles := make([]api.Vec, 33)
	for i := range singles {
		singles[i] = one
	}
	if j, e := Join(singles[:32]...); j != ofRow(strings.Repeat("1", 32)) || e != api.OK {
		t.Errorf("Join of 32 = %v, %d", j, e)
	}
	long := [][]api.Vec{{full, one}, {one, full}, {most, one, one}, {full, none, one}, {full, full}, singles}
	for _, l := range long {
		if j, e := Join(l...); j != (api.Vec{}) || e != api.ErrLong {
			t.Errorf("Join(%v) = %v, %d", l, j, e)
		}
	}
	for _, v := range wrong() {
		for _, l := range [][]api.Vec{{v}, {one, v}, {v, one}, {full, full, v}, {full, v, full}} {
			if j, e := Join(l...); j != (api.Vec{}) || e != api.ErrVec {
				t.Errorf("Join(%v) = %v, %d", l, j, e)
			}
		}
	}
}

// alike is how many first signs two rows have in common.
func alike(a, b string) int {
	n := 0
	for n < len(a) && n < len(b) && a[n] == b[n] {
		n++
	}
	return n
}

// P1.2: of any two vectors, who begins with whom, how far they are alike, and who stands first.
func TestBeginsCommonCompare(t *testing.T) {
	all := allRows()
	for _, a := range all {
		for _, b := range all {
			v, w := ofRow(a), ofRow(b)
			if g := Begins(v, w); g != strings.HasPrefix(a, b) {
				t.Errorf("Begins(%q, %q) = %v", a, b, g)
			}
			if n, e := Common(v, w); n != alike(a, b) || e != api.OK {
				t.Errorf("Common(%q, %q) = %d, %d", a, b, n, e)
			}
			// The order of rows as texts is the document's: the first unlike sign, else the shorter.
			if c, e := Compare(v, w); c != strings.Compare(a, b) || e != api.OK {
				t.Errorf("Compare(%q, %q) = %d, %d", a, b, c, e)
			}
		}
	}
}

// P1.2: vectors that may not be, on either side.
func TestTwoWrong(t *testing.T) {
	good := []api.Vec{{}, ofRow("1"), ofRow("101"), ofRow(strings.Repeat("0", 32))}
	for _, v := range wrong() {
		for _, w := range append(good, v, api.Vec{Len: -1}) {
			for _, p := range [][2]api.Vec{{v, w}, {w, v}} {
				if Begins(p[0], p[1]) {
					t.Errorf("Begins(%v)", p)
				}
				if n, e := Common(p[0], p[1]); n != 0 || e != api.ErrVec {
					t.Errorf("Common(%v) = %d, %d", p, n, e)
				}
				if c, e := Compare(p[0], p[1]); c != 0 || e != api.ErrVec {
					t.Errorf("Compare(%v) = %d, %d", p, c, e)
				}
			}
		}
	}
}

// P1.3: texts of vectors, and the vectors of these.
func TestTextAndRead(t *testing.T) {
	for _, r := range allRows() {
		want := r
		if r == "" {
			want = "."
		}
		if s, e := Text(ofRow(r)); s != want || e != api.OK {
			t.Errorf("Text(%q) = %q, %d", r, s, e)
		}
		if v, at, e := Read(want); v != ofRow(r) || at != 0 || e != api.OK {
			t.Errorf("Read(%q) = %v, %d, %d", want, v, at, e)
		}
	}
	for _, v := range wrong() {
		if s, e := Text(v); s != "" || e != api.ErrVec {
			t.Errorf("Text(%v) = %q, %d", v, s, e)
		}
	}
}

// P1.3: texts that are of no vector, and where they part from all that are.
func TestReadWrong(t *testing.T) {
	full := strings.Repeat("10", 16)
	tests := []struct {
		s  string
		at int
	}{
		{"", 0}, {"x", 0}, {" ", 0}, {"2", 0}, {"/", 0}, {"\x00", 0}, {"\xff", 0}, {"é", 0}, {"-1", 0}, {" .", 0},
		{"..", 1}, {".0", 1}, {".1", 1}, {".x", 1}, {". ", 1}, {"...", 1},
		{"0.", 1}, {"1.", 1}, {"1 ", 1}, {"1\n", 1}, {"10x", 2}, {"10x1", 2}, {"102", 2}, {"10\x0001", 2}, {"101é", 3},
		{full[:31] + "x", 31}, {full[:31] + ".", 31}, {full[:31] + "xx", 31},
		{full + "0", 32}, {full + "1", 32}, {full + ".", 32}, {full + "x", 32}, {full + full, 32},
		{strings.Repeat("0", 1<<20), 32}, {full + strings.Repeat("x", 1<<16), 32},
	}
	for _, x := range tests {
		if v, at, e := Read(x.s); v != (api.Vec{}) || at != x.at || e != api.ErrVec {
			t.Errorf("Read(%.40q) = %v, %d, %d; the place is %d", x.s, v, at, e, x.at)
		}
	}
}

// P1.3: of all short texts, Read's place against its meaning: the longest start of s that a text of a vector has.
func TestReadPlaces(t *testing.T) {
	texts := []string{""}
	for i := 0; i < len(texts); i++ {
		if len(texts[i]) < 4 {
			for _, c := range []string{"0", "1", ".", "x"} {
				texts = append(texts, texts[i]+c)
			}
		}
	}
	vectors := append(rows(5)[1:], ".")
	for _, s := range texts {
		is, far := false, 0
		for _, r := range vectors {
			is = is || r == s
			far = max(far, alike(r, s))
		}
		v, at, e := Read(s)
		if is && (at != 0 || e != api.OK) || !is && (v != (api.Vec{}) || at != far || e != api.ErrVec) {
			t.Errorf("Read(%q) = %v, %d, %d; is one: %v, as far as %d", s, v, at, e, is, far)
		}
	}
}

// P1.4: numbers mixed; those of the chain from 0 on are the known ones of this mixing.
func TestMix(t *testing.T) {
	const step = 0x9e3779b97f4a7c15
	known := []uint64{0xe220a8397b1dcdaf, 0x6e789e6aa1b965f4, 0x06c45d188009454f, 0xf88bb8a8724c81ec, 0x1b39896a51a8749b}
	x := uint64(0)
	for i, want := range known {
		if g := Mix(x); g != want {
			t.Errorf("Mix %d: %x, not %x", i, g, want)
		}
		x += step
	}
	// The number that the first sum brings to 0 stays 0 all the way.
	if g := Mix(math.MaxUint64 - step + 1); g != 0 {
		t.Errorf("Mix of the sum's opposite = %x", g)
	}
}

// P1.4: the n highest bits of what is mixed.
func TestDraw(t *testing.T) {
	for _, x := range []uint64{0, 1, 7, 1 << 32, math.MaxUint64} {
		for n := range 33 {
			row, m := "", Mix(x)
			for i := range n {
				row += string(rune('0' + m>>(63-i)&1))
			}
			if v, e := Draw(n, x); v != ofRow(row) || e != api.OK {
				t.Errorf("Draw(%d, %d) = %v, %d", n, x, v, e)
			}
		}
		for _, n := range outside(32) {
			if v, e := Draw(n, x); v != (api.Vec{}) || e != api.ErrRange {
				t.Errorf("Draw(%d, %d) = %v, %d", n, x, v, e)
			}
		}
	}
}

// P1.4: all prefixes, the shortest first; the same ones when they are ranged over again.
func TestPrefixes(t *testing.T) {
	for _, r := range allRows() {
		all := Prefixes(ofRow(r))
		for range 2 {
			n := 0
			for w := range all {
				if n > len(r) || w != ofRow(r[:n]) {
					t.Fatalf("Prefixes(%q): %v at %d", r, w, n)
				}
				n++
			}
			if n != len(r)+1 {
				t.Errorf("Prefixes(%q): %d", r, n)
			}
		}
	}
}

// P1.4: ranging that stops early is told no more; a vector that may not be has none.
func TestPrefixesStop(t *testing.T) {
	for _, r := range allRows() {
		for stop := range len(r) + 1 {
			n := 0
			Prefixes(ofRow(r))(func(api.Vec) bool {
				n++
				return n <= stop
			})
			if n != stop+1 {
				t.Errorf("Prefixes(%q) stopped at %d: told %d", r, stop, n)
			}
		}
	}
	for range Prefixes(ofRow("101")) {
		break
	}
	for _, v := range wrong() {
		for w := range Prefixes(v) {
			t.Errorf("Prefixes(%v): %v", v, w)
		}
	}
	Prefixes(ofRow("101"))(nil)
	Prefixes(api.Vec{Len: -1})(nil)
}

// P1.5: who begins with w is w, or begins with just one of w0 and w1.
func TestParted(t *testing.T) {
	all := allRows()
	for _, b := range all {
		w := ofRow(b)
		if w.Len == api.MaxVec {
			continue
		}
		w0, e0 := Join(w, api.Vec{Len: 1})
		w1, e1 := Join(w, api.Vec{Len: 1, Bits: 1})
		if e0 != api.OK || e1 != api.OK {
			t.Fatalf("Join of %q and a bit: %d, %d", b, e0, e1)
		}
		for _, a := range all {
			v, n := ofRow(a), 0
			for _, is := range []bool{v == w, Begins(v, w0), Begins(v, w1)} {
				if is {
					n++
				}
			}
			if Begins(v, w) != (n == 1) || n > 1 {
				t.Errorf("%q begins with %q: %v; parts: %d", a, b, Begins(v, w), n)
			}
		}
	}
}

// order is Compare of two vectors that may be.
func order(t *testing.T, v, w api.Vec) int {
	c, e := Compare(v, w)
	if e != api.OK {
		t.Fatalf("Compare(%v, %v): %d", v, w, e)
	}
	return c
}

// P1.6: Compare is an order.
func TestOneOrder(t *testing.T) {
	all := append(rows(4), longRows()...)
	for _, a := range all {
		for _, b := range all {
			v, w := ofRow(a), ofRow(b)
			c := order(t, v, w)
			if c != -order(t, w, v) || (c == 0) != (a == b) {
				t.Errorf("Compare(%q, %q) = %d", a, b, c)
			}
			for _, d := range all {
				x := ofRow(d)
				if c < 0 && order(t, w, x) < 0 && order(t, v, x) >= 0 {
					t.Errorf("%q, %q, %q: no order", a, b, d)
				}
			}
		}
	}
}

// P1.6: those that begin with w stand on one side of each that does not, but w's own prefixes.
func TestOneSide(t *testing.T) {
	all := rows(4)
	for _, b := range all {
		w := ofRow(b)
		for _, d := range all {
			x, side := ofRow(d), 0
			if Begins(x, w) || Begins(w, x) {
				continue
			}
			for _, a := range all {
				v := ofRow(a)
				if !Begins(v, w) {
					continue
				}
				c := order(t, v, x)
				if c == 0 || c == -side {
					t.Errorf("%q, which begins with %q: %d beside %q, others %d", a, b, c, d, side)
				}
				side = c
			}
		}
	}
}

// P1.7: Read of Text, Join of Prefix and Rest, Flip of Flip: each is the vector.
func TestThereAndBack(t *testing.T) {
	for _, r := range allRows() {
		v := ofRow(r)
		s, _ := Text(v)
		if g, at, e := Read(s); g != v || at != 0 || e != api.OK {
			t.Errorf("Read of Text(%q) = %v, %d, %d", r, g, at, e)
		}
		for n := range len(r) + 1 {
			p, _ := Prefix(v, n)
			q, _ := Rest(v, n)
			if g, e := Join(p, q); g != v || e != api.OK {
				t.Errorf("Join of Prefix and Rest(%q, %d) = %v, %d", r, n, g, e)
			}
		}
		for i := range len(r) {
			f, _ := Flip(v, i)
			if g, e := Flip(f, i); g != v || e != api.OK || f == v {
				t.Errorf("Flip of Flip(%q, %d) = %v, %d", r, i, g, e)
			}
		}
	}
}
