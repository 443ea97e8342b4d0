package rpc

import (
	"leapfrog/api"
	"leapfrog/msg"
)

// sent is a request that is open.
type sent struct {
	packet api.Packet
	age    int // its ticks, from 0 on again when it goes out again: no number of ticks is too great
}

// Caller asks.
type Caller struct {
	me    api.Addr
	again int
	last  int          // the ID of the last request
	open  map[int]sent // NewCaller alone makes it: without it, a Caller was not made
}

// NewCaller makes a caller.
func NewCaller(me api.Addr, again int) (*Caller, api.Errno) {
	if again < 1 || again > api.MaxAgain {
		return nil, api.ErrRpc
	}
	return &Caller{me: me, again: again, open: map[int]sent{}}, api.OK
}

// made tells whether NewCaller made it.
func (c *Caller) made() bool {
	return c != nil && c.open != nil
}

// Ask is a request that goes out.
func (c *Caller) Ask(to api.Addr, a api.Ask) (api.Packet, api.Errno) {
	if !c.made() {
		return api.Packet{}, api.ErrNil
	}
	if e := msg.CheckAsk(a); e != api.OK {
		return api.Packet{}, e
	}
	if len(c.open) >= api.MaxOpen {
		return api.Packet{}, api.ErrMany
	}
	if c.last >= api.MaxID {
		return api.Packet{}, api.ErrRpc
	}
	c.last++
	p := api.Packet{From: c.me, To: to, ID: c.last, Ask: a}
	c.open[p.ID] = sent{packet: p}
	return p, api.OK
}

// answers tells whether a packet is the reply to a request that is open.
func (c *Caller) answers(p api.Packet) bool {
	if !p.Reply || p.To != c.me || msg.Check(p) != api.OK {
		return false
	}
	s, is := c.open[p.ID]
	// Whoever else sends a reply of that ID was not asked.
	return is && s.packet.To == p.From
}

// Take is the request that a reply answers; it is open no more.
func (c *Caller) Take(p api.Packet) (api.Packet, bool) {
	if !c.made() || !c.answers(p) {
		return api.Packet{}, false
	}
	return c.End(p.ID)
}

// End is the request of an ID; it is not waited for any more.
func (c *Caller) End(id int) (api.Packet, bool) {
	if !c.made() {
		return api.Packet{}, false
	}
	s, is := c.open[id]
	delete(c.open, id)
	return s.packet, is
}

// inOrder are the requests that are open, by ID.
func (c *Caller) inOrder() []sent {
	return byNumber(c.open, func(s sent) int { return s.packet.ID })
}

// Tick lets a tick go by; what it tells is sent again.
func (c *Caller) Tick() []api.Packet {
	if !c.made() {
		return nil
	}
	var l []api.Packet
	for _, s := range c.inOrder() {
		s.age = (s.age + 1) % c.again
		c.open[s.packet.ID] = s
		if s.age == 0 {
			l = append(l, s.packet)
		}
	}
	return l
}

// Open are the requests that are not answered, by ID.
func (c *Caller) Open() []api.Packet {
	if !c.made() {
		return nil
	}
	var l []api.Packet
	for _, s := range c.inOrder() {
		l = append(l, s.packet)
	}
	return l
}
