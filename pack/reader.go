package pack

import (
	"bytes"
	"math"

	"leapfrog/api"
	"leapfrog/key"
	"leapfrog/vec"
)

// fault is why bytes are not read on, and where.
type fault struct {
	at int
	e  api.Errno
}

// rest is what is left of bytes, and how many were taken.
type rest struct {
	left []byte
	at   int
}

// take takes the next n bytes; they are not the taker's own.
func (r *rest) take(n int) []byte {
	if n > len(r.left) {
		panic(fault{r.at + len(r.left), api.ErrShort})
	}
	b := r.left[:n]
	r.left, r.at = r.left[n:], r.at+n
	return b
}

// one takes the next byte.
func (r *rest) one() byte {
	return r.take(1)[0]
}

// must holds the byte that was taken last to be one that may stand there.
func (r *rest) must(may bool) {
	if !may {
		panic(fault{r.at - 1, api.ErrBytes})
	}
}

// high takes a number of n bytes, the highest first.
func (r *rest) high(n int) uint64 {
	x := uint64(0)
	for _, c := range r.take(n) {
		x = x<<8 | uint64(c)
	}
	return x
}

// reader reads fields from what is left.
type reader struct {
	rest
	fields []api.Field
}

// readFields are the fields of these kinds with which b begins, and how many bytes these have.
func readFields(b []byte, kinds []api.FieldKind) (l []api.Field, n int, e api.Errno) {
	defer func() {
		if x := recover(); x != nil {
			// Nothing but a fault of the bytes is told; what else there was would be a fault of the program.
			f := x.(fault)
			l, n, e = nil, f.at, f.e
		}
	}()
	r := reader{rest: rest{left: b}}
	for _, k := range kinds {
		r.fields = append(r.fields, r.field(k))
	}
	return r.fields, r.at, api.OK
}

// field reads a field of a kind that is one.
func (r *reader) field(k api.FieldKind) api.Field {
	f := api.Field{Kind: k}
	switch k {
	case api.FNum:
		f.N = r.number(math.MaxUint64)
	case api.FInt:
		f.I = r.whole()
	case api.FBool:
		f.T = r.truth()
	case api.FBytes:
		f.B = r.row()
	case api.FVec:
		f.V = r.vector()
	case api.FKey:
		f.K = r.key()
	case api.FRef:
		f.R = r.ref()
	}
	return f
}

// number reads a number of at most most.
func (r *reader) number(most uint64) uint64 {
	n := uint64(0)
	for shift := 0; ; shift += 7 {
		c := r.one()
		// Behind a byte that says more comes at least a 1, which is worth the 128 that is in it: so c, with that or without, is the least by which the number still grows.
		r.must(uint64(c) <= (most-n)>>shift && (c != 0 || shift == 0))
		n += uint64(c&^more) << shift
		if c < more {
			return n
		}
	}
}

// whole reads an int.
func (r *reader) whole() int {
	return unfolded(r.number(math.MaxUint64))
}

// truth reads a truth.
func (r *reader) truth() bool {
	c := r.one()
	r.must(c <= 1)
	return c == 1
}

// row reads a row, which is a copy.
func (r *reader) row() []byte {
	return bytes.Clone(r.take(int(r.number(api.MaxBytes))))
}

// vector reads a vector.
func (r *reader) vector() api.Vec {
	v := api.Vec{Len: int(r.one())}
	r.must(vec.Right(v) == api.OK)
	n := bitBytes(v.Len)
	unused := 8*n - v.Len
	x := r.high(n)
	// All but the last byte may be any: if one is wrong, it is that which was taken last.
	r.must(x&(1<<unused-1) == 0)
	v.Bits = x >> unused
	return v
}

// key reads a key.
func (r *reader) key() api.Key {
	k := api.Key{Rank: api.Rank(r.one())}
	r.must(key.Check(k) == api.OK)
	k.N = r.high(rankBytes(k.Rank))
	return k
}

// ref reads a reference.
func (r *reader) ref() api.Ref {
	id := r.whole()
	k := r.key()
	return api.Ref{ID: id, Key: k, Vec: r.vector()}
}
