package link

import (
	"slices"

	"leapfrog/api"
	"leapfrog/lock"
)

// record is a peer's of one list; the list's name is its key in the table.
type record struct {
	*lock.Lock
	left  api.Ref
	right api.Ref
}

// newRecord is one that nobody holds.
func newRecord(left, right api.Ref) *record {
	return &record{Lock: lock.New(), left: left, right: right}
}

// state is how the record stands, in memory of its own.
func (r *record) state(w api.Vec) api.RecState {
	owner, held := r.Holder()
	return api.RecState{W: w, Left: r.left, Right: r.right, Held: held, Owner: owner, Waits: r.Waits()}
}

// heldBy tells whether an owner may be, and holds the lock.
func (r *record) heldBy(o api.Owner) api.Errno {
	if e := lock.Check(o); e != api.OK {
		return e
	}
	if owner, held := r.Holder(); !held || owner != o {
		return api.ErrHeld
	}
	return api.OK
}

// Same tells whether two records are the same in all fields.
func Same(a, b api.RecState) bool {
	return a.W == b.W && a.Left == b.Left && a.Right == b.Right &&
		a.Held == b.Held && a.Owner == b.Owner && slices.Equal(a.Waits, b.Waits)
}
