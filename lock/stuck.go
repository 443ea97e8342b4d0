package lock

import (
	"cmp"
	"slices"

	"leapfrog/api"
)

// maxClaims is how many claims Stuck looks at.
const maxClaims = 4096

// tangle is claims, and what is in their owners' way. Who is found to be served is in nobody's way from then on.
type tangle struct {
	noted   map[api.Claim]int   // 1 for each claim: told twice, it counts once
	holds   map[api.Owner][]int // the places that an owner holds
	waiters map[int][]api.Owner // those that wait for a place
	busy    map[int]int         // how many hold a place that were not found to be served
	lacks   map[api.Owner]int   // how many places an owner waits for that such others hold
}

// tie notes claims.
func tie(l []api.Claim) *tangle {
	t := &tangle{
		noted:   map[api.Claim]int{},
		holds:   map[api.Owner][]int{},
		waiters: map[int][]api.Owner{},
		busy:    map[int]int{},
		lacks:   map[api.Owner]int{},
	}
	for _, c := range l {
		if t.noted[c] == 0 {
			t.note(c)
		}
	}
	for place, waiters := range t.waiters {
		for _, o := range waiters {
			if !t.open(place, o) {
				t.lacks[o]++
			}
		}
	}
	return t
}

// note notes a claim.
func (t *tangle) note(c api.Claim) {
	t.noted[c] = 1
	if c.Held {
		t.holds[c.Owner] = append(t.holds[c.Owner], c.Place)
		t.busy[c.Place]++
	} else {
		t.waiters[c.Place] = append(t.waiters[c.Place], c.Owner)
	}
}

// open tells whether nobody is in an owner's way at a place, but itself.
func (t *tangle) open(place int, o api.Owner) bool {
	own := t.noted[api.Claim{Owner: o, Place: place, Held: true}]
	return t.busy[place] == own
}

// serve takes an owner out of everybody's way; those that lack nothing more by this are to be served, too.
func (t *tangle) serve(o api.Owner) []api.Owner {
	var next []api.Owner
	for _, place := range t.holds[o] {
		t.busy[place]--
		// Where two are left it is open to nobody: to look at all that wait, for each that goes, would take long.
		if t.busy[place] > 1 {
			continue
		}
		for _, w := range t.waiters[place] {
			if !t.open(place, w) {
				continue
			}
			t.lacks[w]--
			if t.lacks[w] == 0 {
				next = append(next, w)
			}
		}
	}
	return next
}

// compare puts owners in order.
func compare(x, y api.Owner) int {
	return cmp.Or(cmp.Compare(x.Agent, y.Agent), cmp.Compare(x.Op, y.Op))
}

// owners are the owners of claims, each once, in order.
func owners(l []api.Claim) []api.Owner {
	var all []api.Owner
	for _, c := range l {
		all = append(all, c.Owner)
	}
	slices.SortFunc(all, compare)
	return slices.Compact(all)
}

// checkClaims tells whether Stuck looks at claims.
func checkClaims(l []api.Claim) api.Errno {
	for _, c := range l {
		if e := Check(c.Owner); e != api.OK {
			return e
		}
	}
	if len(l) > maxClaims {
		return api.ErrMany
	}
	return api.OK
}

// Stuck are the owners that never get what they wait for, if nobody gives up.
func Stuck(l ...api.Claim) ([]api.Owner, api.Errno) {
	if e := checkClaims(l); e != api.OK {
		return nil, e
	}
	t, all := tie(l), owners(l)
	var served, stuck []api.Owner
	for _, o := range all {
		if t.lacks[o] == 0 {
			served = append(served, o)
		}
	}
	for i := 0; i < len(served); i++ {
		served = append(served, t.serve(served[i])...)
	}
	for _, o := range all {
		if t.lacks[o] > 0 {
			stuck = append(stuck, o)
		}
	}
	return stuck, api.OK
}
