package insert

import (
	"leapfrog/api"
	"leapfrog/key"
	"leapfrog/seek"
	"leapfrog/splice"
	"leapfrog/vec"
)

// list is that of a level: as many first bits of Me's vector, which has them, as no level is above the height.
func (m *Insert) list(level int) api.Vec {
	w, _ := vec.Prefix(m.conf.Me.Vec, level)
	return w
}

// leave lets it be at a place where no machine is played.
func (m *Insert) leave(to place) {
	m.at, m.plays = to, nil
}

// end lets it be over.
func (m *Insert) end(e api.Errno) {
	m.leave(atEnd)
	m.e = e
}

// goOn goes on to what is to come, if the machine that it plays is over.
func (m *Insert) goOn() {
	x := m.plays.Next()
	if x.Kind != api.SDone {
		return
	}
	switch m.plays.(type) {
	case *seek.Seek:
		m.found(x.Result)
	case *splice.Splice:
		m.spliced(x.Result.E)
	}
}

// found takes what a search found.
func (m *Insert) found(r api.Result) {
	if r.E != api.OK {
		m.end(r.E)
		return
	}
	m.enter(r.Left)
}

// enter lets it splice Me into its level's list, from a peer that is known to be below Me, so that there is no error.
func (m *Insert) enter(from api.Ref) {
	m.at = atMachine
	m.plays, _ = entry(m.conf, m.level, from)
}

// spliced takes what came of a splice. Above level 0 Me is in lists already, and there is no way back: it is over only if Me is dead.
func (m *Insert) spliced(e api.Errno) {
	switch {
	case e == api.OK || e == api.ErrTaken && m.level > 0:
		m.rise()
	case e != api.ErrAgain:
		m.end(e)
	case m.level > 0:
		m.enter(head(m.conf.Height))
	default:
		m.searchAgain()
	}
}

// rise goes on to the level above, or, if there is none, to Join.
func (m *Insert) rise() {
	if m.level == m.conf.Height {
		m.leave(atJoin)
		return
	}
	m.leave(atWalk)
	m.level++
	m.here = m.conf.Me
}

// searchAgain begins one more search, from the head, if there may be one more.
func (m *Insert) searchAgain() {
	if m.searches == api.MaxTries {
		m.end(api.ErrBusy)
		return
	}
	m.searches++
	// What New took of the settings holds from the head, too, so that there is no error.
	m.plays, _ = search(m.conf, head(m.conf.Height))
}

// hearWalk takes the answer of the peer on which it stands, as to who stands to its left in the list below.
func (m *Insert) hearWalk(a api.Answer) {
	left := a.Left
	switch {
	case a.Kind == api.ADead && m.here == m.conf.Me:
		m.end(api.ErrDead)
	case a.Kind != api.AOK || key.Check(left.Key) != api.OK || !key.Less(left.Key, m.here.Key):
		m.enter(head(m.conf.Height))
	case left.Key.Rank == api.RLow || vec.Begins(left.Vec, m.list(m.level)):
		m.enter(left)
	default:
		m.here = left
	}
}

// hearJoin takes Me's answer, that it has joined.
func (m *Insert) hearJoin(a api.Answer) {
	e := api.OK
	if a.Kind == api.ADead {
		e = api.ErrDead
	}
	m.end(e)
}
