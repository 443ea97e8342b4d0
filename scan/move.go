package scan

import (
	"slices"

	"leapfrog/api"
	"leapfrog/key"
	"leapfrog/seek"
)

// seek gives it a new search, from its start, to the key from which on it seeks.
func (s *Scan) seek() api.Errno {
	m, e := seek.New(api.SeekConf{Height: s.height, Start: s.start, Target: s.from})
	s.at, s.search, s.hand = atSearch, m, nil
	return e
}

// seekAgain lets it seek anew, if it has not done so too often.
func (s *Scan) seekAgain() {
	if s.tries == api.MaxTries {
		s.fail(api.ErrBusy)
		return
	}
	s.tries++
	// New sought with these settings: there is no error.
	s.seek()
}

// end lets it be over, and keep nothing but what it tells.
func (s *Scan) end(e api.Errno) {
	*s = Scan{at: atEnd, items: s.items, tries: s.tries, e: e}
}

// fail lets it be over with an error alone.
func (s *Scan) fail(e api.Errno) {
	s.items = nil
	s.end(e)
}

// goOn goes on to whom the search found, if it is over; it seeks on, else.
func (s *Scan) goOn() {
	switch m := s.search.Next(); {
	case m.Kind != api.SDone:
		s.at, s.hand = atSearch, nil
	case m.Result.E != api.OK:
		s.fail(m.Result.E)
	default:
		search := s.search
		s.come(func() api.Ref { return search.Next().Result.Right })
	}
}

// come lets one be at hand, if it is not above all that is ranged over: behind that, all is told.
func (s *Scan) come(hand func() api.Ref) {
	if key.Less(s.high, hand().Key) {
		s.end(api.OK)
		return
	}
	s.at, s.hand = atHand, hand
}

// hear takes the answer of who is at hand. Over the dead only a search has a way, and only from the one that stands to the left of whom it found.
func (s *Scan) hear(a api.Answer) {
	switch {
	case a.Kind == api.AOK && !a.Marked:
		if len(s.items) == api.MaxRange {
			s.fail(api.ErrLarge)
			return
		}
		s.items = append(s.items, api.Item{Key: s.hand().Key.N, Value: slices.Clone(a.Value)})
		fallthrough
	case a.Kind == api.AOK:
		s.pass(a.Right)
	case a.Kind == api.ADead && s.search != nil:
		s.search.Dead(a)
		s.goOn()
	default:
		s.at, s.search, s.hand = atWait, nil, nil
	}
}

// pass goes on behind who is at hand, to the one to the right of it.
func (s *Scan) pass(right api.Ref) {
	x := s.hand().Key
	// It is a key of a number: there is one behind it.
	s.from, _ = key.Next(x)
	if !key.Less(x, right.Key) {
		s.seekAgain()
		return
	}
	s.search = nil
	s.come(func() api.Ref { return right })
}
