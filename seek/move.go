package seek

import (
	"leapfrog/api"
	"leapfrog/key"
	"leapfrog/vec"
)

// hearHere takes the answer of the peer on which it stands.
func (s *Seek) hearHere(a api.Answer) {
	switch a.Kind {
	case api.AOK:
		if key.Less(s.here.Key, s.target) {
			s.goRight(a.Right)
		} else {
			s.goLeft(a.Left)
		}
	case api.ADead:
		s.keep(s.here, a)
		fallthrough
	default:
		s.beginAgain()
	}
}

// hearAhead takes the answer of the one that it looks at.
func (s *Seek) hearAhead(a api.Answer) {
	switch a.Kind {
	case api.AOK:
		s.stand(s.ahead)
		s.goRight(a.Right)
	case api.ADead:
		s.pass(s.ahead, a)
	default:
		s.beginAgain()
	}
}

// keep keeps a dead one's will in this list. Nobody goes left by a will: so its left side is let go.
func (s *Seek) keep(dead api.Ref, a api.Answer) {
	s.wills[place{dead.ID, s.list}] = a.Right
}

// stand lets it stand on a peer, which it asks next.
func (s *Seek) stand(r api.Ref) {
	s.here, s.ahead, s.looks = r, api.Ref{}, false
}

// end lets it be over.
func (s *Seek) end(r api.Result) {
	s.over, s.result = true, r
}

// again counts one more beginning: is it not one too many?
func (s *Seek) again() bool {
	if s.tries == api.MaxTries {
		s.end(api.Result{E: api.ErrBusy})
		return false
	}
	s.tries++
	return true
}

// beginAgain lets it begin at the head, at the top.
func (s *Seek) beginAgain() {
	if s.again() {
		s.list = s.head.Vec
		s.stand(s.head)
	}
}

// pass keeps the will of a dead one to the right, and reads anew the peer on which it stands, so as to go past that one.
func (s *Seek) pass(dead api.Ref, a api.Answer) {
	s.keep(dead, a)
	if s.again() {
		s.over, s.result = false, api.Result{}
		s.stand(s.here)
	}
}

// goLeft lets it stand on the one to its left.
func (s *Seek) goLeft(left api.Ref) {
	if !rises(left, s.here) || key.Check(left.Key) != api.OK {
		s.beginAgain()
		return
	}
	s.stand(left)
}

// goRight lets it look at who lives to its right, as far as it knows; or go down; or be over, if that one is not below the target.
func (s *Seek) goRight(right api.Ref) {
	next, is := s.living(right)
	switch {
	case !is:
		s.beginAgain()
	case key.Less(next.Key, s.target):
		s.ahead, s.looks = next, true
	case s.list.Len > 0:
		// It has a last bit, so that there are all the others.
		s.list, _ = vec.Prefix(s.list, s.list.Len-1)
		s.stand(s.here)
	default:
		s.end(api.Result{Left: s.here, Right: next, Found: next.Key == s.target})
	}
}

// living is the first one to the right of which no will is kept; there is none, if those on the way do not rise, as they must for it to end.
func (s *Seek) living(right api.Ref) (api.Ref, bool) {
	for last := s.here; ; {
		if !rises(last, right) || key.Check(right.Key) != api.OK {
			return api.Ref{}, false
		}
		will, dead := s.wills[place{right.ID, s.list}]
		if !dead {
			return right, true
		}
		last, right = right, will
	}
}

// rises tells whether a stands ahead of b.
func rises(a, b api.Ref) bool {
	return key.Less(a.Key, b.Key)
}
