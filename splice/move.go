package splice

import (
	"leapfrog/api"
	"leapfrog/key"
)

// wait lets it wait for a tick, behind which it locks anew.
func (s *Splice) wait() {
	s.at = atWait
}

// end lets it be over.
func (s *Splice) end(r api.Result) {
	s.at, s.result = atEnd, r
}

// beside is a result that names both sides.
func (s *Splice) beside(e api.Errno) api.Result {
	return api.Result{E: e, Left: s.left, Right: s.right}
}

// free gives the lock of who stands to the left back, and does something behind that. Of a dead one there is no lock to give back.
func (s *Splice) free(then func(*Splice)) {
	if s.dead {
		then(s)
		return
	}
	s.at, s.then = atFree, then
}

// freeAndWait gives that lock back, and waits.
func (s *Splice) freeAndWait() {
	s.free(func(s *Splice) { s.wait() })
}

// freeAndEnd gives that lock back, and is over.
func (s *Splice) freeAndEnd(r api.Result) {
	s.free(func(s *Splice) { s.end(r) })
}

// freeAndFail gives that lock back, and is over with an error alone.
func (s *Splice) freeAndFail(e api.Errno) {
	s.freeAndEnd(api.Result{E: e})
}

// stepBack takes an answer by which it was not let lock. Where there is nobody to lock, it goes back to whom it came from, once.
func (s *Splice) stepBack(a api.Answer) {
	away := a.Kind == api.AGone || a.Kind == api.ADead
	if away && !s.hasLast {
		s.end(api.Result{E: api.ErrAgain})
		return
	}
	if away {
		s.left, s.last, s.hasLast = s.last, api.Ref{}, false
	}
	s.wait()
}

// look finds out whether its place is to the right of the one that it has locked.
func (s *Splice) look() {
	me := s.conf.Me.Key
	switch {
	case !key.Less(s.left.Key, s.right.Key):
		s.freeAndFail(api.ErrAgain)
	case key.Less(s.right.Key, me):
		next := s.right
		s.free(func(s *Splice) { s.goTo(next) })
	case key.Less(me, s.right.Key):
		s.at = atEnter
	case s.conf.W.Len > 0:
		// Who has its key goes away: in the list of no bits Me took its place already.
		s.freeAndWait()
	default:
		s.at = atSame
	}
}

// goTo lets it lock another one, further to the right.
func (s *Splice) goTo(next api.Ref) {
	s.last, s.hasLast = s.left, true
	s.at, s.left = atLock, next
}

// hearSame takes the answer of the one that has Me's key. Is it marked, or not to be read, it may go away.
func (s *Splice) hearSame(a api.Answer) {
	if a.Kind == api.AOK && !a.Marked {
		s.freeAndEnd(s.beside(api.ErrExists))
		return
	}
	s.freeAndWait()
}

// hearEnter takes Me's answer, whether it stands in between.
func (s *Splice) hearEnter(a api.Answer) {
	switch a.Kind {
	case api.AOK:
		s.at = atRight
	case api.ADead:
		s.freeAndFail(api.ErrDead)
	default:
		s.freeAndFail(api.ErrTaken)
	}
}

// hearRight takes the answer of the one to the left, whether Me stands to its right. A dead one's will tells whether it did, ahead of its death.
func (s *Splice) hearRight(a api.Answer) {
	s.dead = a.Kind == api.ADead
	if a.Kind == api.AOK || s.dead && a.Right.ID == s.conf.Me.ID {
		s.at = atLeft
		return
	}
	s.at = atOut
}

// hearMine takes the answer of Me, which is in the list.
func (s *Splice) hearMine(a api.Answer) {
	if a.Kind == api.ADead {
		s.freeAndFail(api.ErrDead)
		return
	}
	s.freeAndEnd(s.beside(api.OK))
}

// hearOut takes the answer of Me, which was to leave the list.
func (s *Splice) hearOut(a api.Answer) {
	e := api.ErrAgain
	if a.Kind == api.ADead {
		e = api.ErrDead
	}
	s.freeAndFail(e)
}
