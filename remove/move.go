package remove

import (
	"leapfrog/api"
	"leapfrog/vec"
)

// stop lets it be at a place where no machine is at hand.
func (r *Remove) stop(at place) {
	r.at, r.hand = at, nil
}

// end lets it be over.
func (r *Remove) end(e api.Errno) {
	r.stop(atEnd)
	r.e = e
}

// goOn goes on to what is to come, if the machine at hand is over.
func (r *Remove) goOn() {
	switch m := r.hand.Next(); {
	case m.Kind != api.SDone:
	case r.at == atSearch:
		r.sought(m.Result)
	default:
		r.left(m.Result.E)
	}
}

// sought takes what the search found.
func (r *Remove) sought(s api.Result) {
	switch {
	case s.E != api.OK:
		r.end(s.E)
	case !s.Found:
		r.end(api.ErrAbsent)
	default:
		r.stop(atMark)
		r.x = s.Right
	}
}

// hearMark takes x's answer, whether it is marked by this. If it lives, and is not, then it is another one's to take out.
func (r *Remove) hearMark(a api.Answer) {
	switch a.Kind {
	case api.AOK:
		r.marked = true
		r.leave(r.x.Vec)
	case api.ADead:
		r.end(api.ErrDead)
	default:
		r.end(api.ErrAbsent)
	}
}

// leave begins to take x out of a list. What was told as x's vector may be none: then there is no list to leave.
func (r *Remove) leave(list api.Vec) {
	m, e := exit(r.x, list, r.owner)
	if e != api.OK {
		r.end(api.OK)
		return
	}
	r.at, r.hand, r.list = atLists, m, list
}

// left takes what came of the unsplice of a list: the next one is that of one bit less. Whoever is dead is marked all the same, and others mend its lists.
func (r *Remove) left(e api.Errno) {
	if e != api.OK || r.list.Len == 0 {
		r.end(api.OK)
		return
	}
	// The list has bits, so that there is no error.
	less, _ := vec.Prefix(r.list, r.list.Len-1)
	r.leave(less)
}
