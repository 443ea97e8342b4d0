package read

import (
	"slices"

	"leapfrog/api"
	"leapfrog/key"
	"leapfrog/seek"
)

// seek lets it seek its key, from its start on.
func (m *Read) seek() api.Errno {
	s, e := seek.New(m.conf)
	m.at, m.search = atSeek, s
	return e
}

// beginAgain lets it seek anew, if it has not done so too often. The wills stay: who is dead stays dead.
func (m *Read) beginAgain() {
	if m.tries == api.MaxTries {
		m.fail(api.ErrBusy)
		return
	}
	m.tries++
	// New sought with these settings: there is no error.
	m.seek()
}

// end lets it be over, and keep nothing but its result.
func (m *Read) end(r api.Result) {
	*m = Read{at: atEnd, result: r}
}

// fail lets it be over with an error alone.
func (m *Read) fail(e api.Errno) {
	m.end(api.Result{E: e})
}

// goOn goes on to whom the search found, if it is over.
func (m *Read) goOn() {
	s := m.search.Next()
	switch r := s.Result; {
	case s.Kind != api.SDone:
	case r.E != api.OK:
		m.fail(r.E)
	case !r.Found && !m.ceil, atTail(r.Right):
		m.fail(api.ErrAbsent)
	default:
		m.left = r.Left
		m.get(r.Right)
	}
}

// atTail tells whether one has its place above all keys.
func atTail(r api.Ref) bool {
	return r.Key.Rank == api.RHigh
}

// get lets it ask one for its value.
func (m *Read) get(r api.Ref) {
	m.at, m.search, m.right = atGet, nil, r
}

// hearGet takes the answer of whom it got. A Get is over by it; a Ceil must find who else is there, if that one goes, or is dead.
func (m *Read) hearGet(a api.Answer) {
	switch {
	case a.Kind == api.AOK && !a.Marked:
		m.end(api.Result{Key: m.right.Key.N, Value: slices.Clone(a.Value), Found: true})
	case !m.ceil:
		m.fail(api.ErrAbsent)
	case a.Kind == api.ADead:
		m.pass(a)
	default:
		m.at = atWait
	}
}

// pass keeps the will of whom it got, and lets it ask the one to the left, who may stand beside another one by now.
func (m *Read) pass(will api.Answer) {
	m.wills[m.right.ID] = will.Right
	left := m.left
	m.at, m.beside = atRead, func() api.Step { return asks(left, api.QRead) }
}

// hearRead takes the answer of the one to the left, of a Ceil.
func (m *Read) hearRead(a api.Answer) {
	if a.Kind != api.AOK {
		m.beginAgain()
		return
	}
	next, is := m.living(a.Right)
	switch {
	case is && atTail(next):
		m.fail(api.ErrAbsent)
	case !is || key.Less(next.Key, m.conf.Target):
		m.beginAgain()
	default:
		m.get(next)
	}
}

// living is the first one to the right of which no will is kept; there is none, if those on the way do not rise, as they must for it to end.
func (m *Read) living(right api.Ref) (api.Ref, bool) {
	for last := m.left; ; {
		if !key.Less(last.Key, right.Key) {
			return api.Ref{}, false
		}
		will, dead := m.wills[right.ID]
		if !dead {
			return right, true
		}
		last, right = right, will
	}
}
