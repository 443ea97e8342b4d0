// Package vec is layer 1: rows of bits.
package vec

import (
	"strings"

	"leapfrog/api"
)

// Right tells whether a vector may be.
func Right(v api.Vec) api.Errno {
	// Len is looked at first: a shift by less than 0 would panic.
	if v.Len < 0 || v.Len > api.MaxVec || v.Bits>>v.Len != 0 {
		return api.ErrVec
	}
	return api.OK
}

// rightBoth tells whether two vectors may be.
func rightBoth(v, w api.Vec) api.Errno {
	if e := Right(v); e != api.OK {
		return e
	}
	return Right(w)
}

// hasBit tells whether v may be and has a bit i.
func hasBit(v api.Vec, i int) api.Errno {
	if e := Right(v); e != api.OK {
		return e
	}
	if i < 0 || i >= v.Len {
		return api.ErrRange
	}
	return api.OK
}

// hasCut tells whether v may be and has n first bits.
func hasCut(v api.Vec, n int) api.Errno {
	if e := Right(v); e != api.OK {
		return e
	}
	if n < 0 || n > v.Len {
		return api.ErrRange
	}
	return api.OK
}

// bitAt is the bit i that v is known to have.
func bitAt(v api.Vec, i int) uint64 {
	return v.Bits >> (v.Len - 1 - i) & 1
}

// first are the n first bits that v is known to have.
func first(v api.Vec, n int) api.Vec {
	return api.Vec{Len: n, Bits: v.Bits >> (v.Len - n)}
}

// behind is v with w's bits behind its own, known not to be too many.
func behind(v, w api.Vec) api.Vec {
	return api.Vec{Len: v.Len + w.Len, Bits: v.Bits<<w.Len | w.Bits}
}

// common is how many first bits two vectors that may be have in common.
func common(v, w api.Vec) int {
	short := min(v.Len, w.Len)
	for i := range short {
		if bitAt(v, i) != bitAt(w, i) {
			return i
		}
	}
	return short
}

// Bit is one of a vector's bits.
func Bit(v api.Vec, i int) (int, api.Errno) {
	if e := hasBit(v, i); e != api.OK {
		return 0, e
	}
	return int(bitAt(v, i)), api.OK
}

// Prefix are the first bits.
func Prefix(v api.Vec, n int) (api.Vec, api.Errno) {
	if e := hasCut(v, n); e != api.OK {
		return api.Vec{}, e
	}
	return first(v, n), api.OK
}

// Rest are the bits behind these.
func Rest(v api.Vec, n int) (api.Vec, api.Errno) {
	if e := hasCut(v, n); e != api.OK {
		return api.Vec{}, e
	}
	left := v.Len - n
	return api.Vec{Len: left, Bits: v.Bits & (1<<left - 1)}, api.OK
}

// Join is one vector behind the other.
func Join(l ...api.Vec) (api.Vec, api.Errno) {
	// All are looked at before their bits are counted: a wrong vector tells more than too many bits ahead of it.
	for _, v := range l {
		if e := Right(v); e != api.OK {
			return api.Vec{}, e
		}
	}
	all := api.Vec{}
	for _, v := range l {
		if all.Len+v.Len > api.MaxVec {
			return api.Vec{}, api.ErrLong
		}
		all = behind(all, v)
	}
	return all, api.OK
}

// Flip is a vector with one bit turned.
func Flip(v api.Vec, i int) (api.Vec, api.Errno) {
	if e := hasBit(v, i); e != api.OK {
		return api.Vec{}, e
	}
	return api.Vec{Len: v.Len, Bits: v.Bits ^ 1<<(v.Len-1-i)}, api.OK
}

// Begins tells whether one vector begins with another one.
func Begins(v, w api.Vec) bool {
	if rightBoth(v, w) != api.OK || w.Len > v.Len {
		return false
	}
	return first(v, w.Len) == w
}

// Common is how many first bits two have in common.
func Common(v, w api.Vec) (int, api.Errno) {
	if e := rightBoth(v, w); e != api.OK {
		return 0, e
	}
	return common(v, w), api.OK
}

// Compare is which of two stands first.
func Compare(v, w api.Vec) (int, api.Errno) {
	if e := rightBoth(v, w); e != api.OK {
		return 0, e
	}
	n := common(v, w)
	switch {
	case n == v.Len && n == w.Len:
		return 0, api.OK
	case n == v.Len:
		return -1, api.OK
	case n == w.Len:
		return 1, api.OK
	case bitAt(v, n) == 0:
		return -1, api.OK
	}
	return 1, api.OK
}

// Text is a vector's text.
func Text(v api.Vec) (string, api.Errno) {
	if e := Right(v); e != api.OK {
		return "", e
	}
	if v.Len == 0 {
		return ".", api.OK
	}
	var b strings.Builder
	for i := range v.Len {
		b.WriteByte('0' + byte(bitAt(v, i)))
	}
	return b.String(), api.OK
}

// Read is the vector of a text.
func Read(s string) (api.Vec, int, api.Errno) {
	if s == "" {
		return api.Vec{}, 0, api.ErrVec
	}
	if s[0] == '.' {
		return readNone(s)
	}
	v := api.Vec{}
	for i := range len(s) {
		if i == api.MaxVec || s[i] != '0' && s[i] != '1' {
			return api.Vec{}, i, api.ErrVec
		}
		v = behind(v, api.Vec{Len: 1, Bits: uint64(s[i] - '0')})
	}
	return v, 0, api.OK
}

// readNone is the vector of no bits, if its sign is all that s has.
func readNone(s string) (api.Vec, int, api.Errno) {
	if len(s) > 1 {
		return api.Vec{}, 1, api.ErrVec
	}
	return api.Vec{}, 0, api.OK
}

// Mix is a number that hangs on all bits of another one.
func Mix(x uint64) uint64 {
	x += 0x9e3779b97f4a7c15
	x = (x ^ x>>30) * 0xbf58476d1ce4e5b9
	x = (x ^ x>>27) * 0x94d049bb133111eb
	return x ^ x>>31
}

// Draw is a vector of so many bits by a draw.
func Draw(n int, x uint64) (api.Vec, api.Errno) {
	if n < 0 || n > api.MaxVec {
		return api.Vec{}, api.ErrRange
	}
	return api.Vec{Len: n, Bits: Mix(x) >> (64 - n)}, api.OK
}

// Prefixes are all of a vector, the shortest first.
func Prefixes(v api.Vec) func(yield func(w api.Vec) bool) {
	return func(yield func(w api.Vec) bool) {
		// A nil yield has nobody to tell; to call it would panic.
		if yield == nil || Right(v) != api.OK {
			return
		}
		for n := range v.Len + 1 {
			if !yield(first(v, n)) {
				return
			}
		}
	}
}
