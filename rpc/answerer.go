package rpc

import (
	"bytes"

	"leapfrog/api"
	"leapfrog/msg"
)

// origin is by what a request is known: callers count their IDs each for itself.
type origin struct {
	from api.Addr
	id   int
}

// waiting is a request that is not answered yet.
type waiting struct {
	packet api.Packet
	place  int // how many were heard ahead of it
}

// Answerer answers. What it heard stands in one of its maps: nothing is forgotten, lest it be done again.
type Answerer struct {
	me      api.Addr
	waits   map[origin]waiting
	replies map[origin]api.Packet // NewAnswerer alone makes it: without it, an Answerer was not made
}

// NewAnswerer makes an answerer.
func NewAnswerer(me api.Addr) *Answerer {
	return &Answerer{me: me, waits: map[origin]waiting{}, replies: map[origin]api.Packet{}}
}

// made tells whether NewAnswerer made it.
func (a *Answerer) made() bool {
	return a != nil && a.replies != nil
}

// own is a reply that shares no bytes with the one that is kept.
func own(p api.Packet) api.Packet {
	p.Answer.Value = bytes.Clone(p.Answer.Value)
	return p
}

// Take is what a packet that comes is to it, and the reply, if it was answered.
func (a *Answerer) Take(p api.Packet) (api.Packet, api.Heard) {
	if !a.made() || p.Reply || p.To != a.me || msg.Check(p) != api.OK {
		return api.Packet{}, api.HNone
	}
	by := origin{p.From, p.ID}
	if _, is := a.waits[by]; is {
		return api.Packet{}, api.HWait
	}
	if reply, is := a.replies[by]; is {
		return own(reply), api.HAgain
	}
	if a.Heard() >= api.MaxHeard {
		return api.Packet{}, api.HNone
	}
	// An empty Value that was handed in may have memory behind it.
	p.Answer = api.Answer{}
	a.waits[by] = waiting{packet: p, place: a.Heard()}
	return api.Packet{}, api.HNew
}

// Reply is the reply to a request that waits.
func (a *Answerer) Reply(from api.Addr, id int, x api.Answer) (api.Packet, api.Errno) {
	if !a.made() {
		return api.Packet{}, api.ErrNil
	}
	by := origin{from, id}
	w, is := a.waits[by]
	if !is {
		return api.Packet{}, api.ErrAsked
	}
	reply, e := msg.Reply(w.packet, x)
	if e != api.OK {
		return api.Packet{}, e
	}
	delete(a.waits, by)
	a.replies[by] = reply
	return own(reply), api.OK
}

// Waits are the requests that are not answered yet, in the order in which they came.
func (a *Answerer) Waits() []api.Packet {
	if !a.made() {
		return nil
	}
	var l []api.Packet
	for _, w := range byNumber(a.waits, func(w waiting) int { return w.place }) {
		l = append(l, w.packet)
	}
	return l
}

// Heard is how many requests were heard.
func (a *Answerer) Heard() int {
	if !a.made() {
		return 0
	}
	return len(a.waits) + len(a.replies)
}
