package peer

import (
	"bytes"

	"leapfrog/api"
	"leapfrog/msg"
)

// ready is an answer to one ticket.
func ready(ticket int, a api.Answer) api.Ready {
	return api.Ready{Ticket: ticket, Answer: a}
}

// only is an answer to an ask with which nobody else is answered.
func only(ticket int, a api.Answer) []api.Ready {
	return []api.Ready{ready(ticket, a)}
}

// plain is an answer that has nothing beside its kind.
func plain(k api.AnswerKind) api.Answer {
	return api.Answer{Kind: k}
}

// done is the answer to what was done, or, with an error, was not.
func done(e api.Errno) api.Answer {
	if e != api.OK {
		return plain(api.ANo)
	}
	return plain(api.AOK)
}

// Ask asks it: what is answered now.
func (p *Peer) Ask(ticket int, a api.Ask) ([]api.Ready, api.Errno) {
	if !p.made() {
		return nil, api.ErrNil
	}
	if msg.CheckAsk(a) != api.OK {
		return nil, api.ErrAsk
	}
	return p.answer(ticket, a), api.OK
}

// answer does what an ask that may be asks for.
func (p *Peer) answer(ticket int, a api.Ask) []api.Ready {
	var value []byte
	switch a.Kind {
	case api.QGet:
		value = p.value
		// Its W is zero, and so the list of no bits: what is left is a QRead of it.
		fallthrough
	case api.QRead:
		return only(ticket, p.record(a.W, value))
	case api.QLock:
		return p.lock(ticket, a)
	case api.QFree:
		return p.free(ticket, a)
	case api.QRight:
		return only(ticket, done(p.records.Right(a.W, a.Ref, a.Owner)))
	case api.QLeft:
		return only(ticket, p.left(a))
	case api.QRec:
		return only(ticket, done(p.records.Put(a.W, a.Ref, a.Ref2, a.Owner)))
	case api.QOut:
		return p.out(ticket, a)
	case api.QMark:
		return p.mark(ticket)
	}
	// No kind but QJoined is left of those that may be.
	return p.join(ticket)
}

// record is the record's answer, with a value.
func (p *Peer) record(w api.Vec, value []byte) api.Answer {
	r, in := p.records.Get(w)
	if !in {
		return plain(api.AGone)
	}
	return api.Answer{Kind: api.AOK, Marked: p.marked, Left: r.Left, Right: r.Right, Value: bytes.Clone(value)}
}

// left changes who stands to its left.
func (p *Peer) left(a api.Ask) api.Answer {
	e := p.records.Left(a.W, a.Ref)
	if e == api.ErrGone {
		return plain(api.AGone)
	}
	return done(e)
}

// lock asks for a record's lock, or waits for it.
func (p *Peer) lock(ticket int, a api.Ask) []api.Ready {
	is, e := p.records.Lock(a.W, a.Owner)
	c := claim{list: a.W, owner: a.Owner}
	_, already := p.locks[c]
	switch {
	case e == api.ErrGone || is:
		return only(ticket, p.record(a.W, nil))
	case e != api.OK || already:
		return only(ticket, plain(api.ANo))
	}
	p.locks[c] = p.wait(ticket)
	return nil
}

// wait gives an ask its turn among those that wait.
func (p *Peer) wait(ticket int) waiter {
	p.waited++
	return waiter{turn: p.waited, ticket: ticket}
}

// free gives a record's lock back, and answers who holds it then.
func (p *Peer) free(ticket int, a api.Ask) []api.Ready {
	next, is, e := p.records.Free(a.W, a.Owner)
	all := only(ticket, done(e))
	if is {
		all = append(all, ready(p.called(a.W, next), p.record(a.W, nil)))
	}
	return all
}

// called is the ticket of one that waited for a record's lock, and does no more.
func (p *Peer) called(w api.Vec, o api.Owner) int {
	c := claim{list: w, owner: o}
	ticket := p.locks[c].ticket
	delete(p.locks, c)
	return ticket
}

// out takes it out of a list, and tells those that waited there.
func (p *Peer) out(ticket int, a api.Ask) []api.Ready {
	waited, e := p.records.Out(a.W, a.Owner)
	all := only(ticket, done(e))
	for _, o := range waited {
		all = append(all, ready(p.called(a.W, o), plain(api.AGone)))
	}
	return all
}

// mark marks it; till it has joined, the ask waits.
func (p *Peer) mark(ticket int) []api.Ready {
	if !p.joined {
		p.marks = append(p.marks, p.wait(ticket))
		return nil
	}
	return only(ticket, p.markOnce())
}

// markOnce marks one that has joined, if it may be marked and is not yet.
func (p *Peer) markOnce() api.Answer {
	if p.isEnd() || p.marked {
		return plain(api.ANo)
	}
	p.marked = true
	return api.Answer{Kind: api.AOK, Value: bytes.Clone(p.value)}
}

// join lets it have joined, and answers the marks that waited for that.
func (p *Peer) join(ticket int) []api.Ready {
	if p.isEnd() {
		return only(ticket, plain(api.ANo))
	}
	p.joined = true
	all := only(ticket, plain(api.AOK))
	for _, w := range p.marks {
		all = append(all, ready(w.ticket, p.markOnce()))
	}
	p.marks = nil
	return all
}
