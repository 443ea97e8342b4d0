package splice

import (
	"testing"

	"leapfrog/api"
)

// crowd is splices that run at once, against one town; who waits for a lock is answered later.
type crowd struct {
	town
	all    []*Splice
	seen   []watch
	asked  []bool // its ask is out
	steps  []api.Step
	killed map[int]bool
}

func gather(w town, all ...*Splice) *crowd {
	c := &crowd{town: w, all: all, asked: make([]bool, len(all)), steps: make([]api.Step, len(all)), killed: map[int]bool{}}
	for _, s := range all {
		c.seen = append(c.seen, watch{me: s.conf.Me})
	}
	return c
}

// hear tells a splice its answer.
func (c *crowd) hear(t *testing.T, i int, a api.Answer) {
	t.Helper()
	if !c.asked[i] {
		t.Fatalf("%d is answered %v, and asked nothing", i, a)
	}
	c.asked[i] = false
	c.seen[i].sees(t, c.steps[i], a)
	c.all[i].Tell(a)
}

// will is what a dead one answers, of a list.
func (c *crowd) will(t *testing.T, x api.Step) api.Answer {
	t.Helper()
	a, e := c.peers[x.To.ID].Will(x.Ask.W)
	if e != api.OK {
		t.Fatalf("Will: %d", e)
	}
	return a
}

// move lets one go on by a step: did it?
func (c *crowd) move(t *testing.T, i int) bool {
	t.Helper()
	if c.asked[i] {
		return false
	}
	x := c.all[i].Next()
	c.steps[i] = x
	switch x.Kind {
	case api.SWait:
		c.seen[i].sees(t, x, api.Answer{})
		c.all[i].Wake()
		return true
	case api.SDone:
		c.seen[i].sees(t, x, api.Answer{})
		return false
	}
	c.asked[i] = true
	if c.killed[x.To.ID] {
		c.hear(t, i, c.will(t, x))
		return true
	}
	l, e := c.peers[x.To.ID].Ask(i, x.Ask)
	if e != api.OK {
		t.Fatalf("%v: %d", x, e)
	}
	for _, r := range l {
		c.hear(t, r.Ticket, r.Answer)
	}
	return true
}

// kill kills one: those whose asks it did not answer are told its will.
func (c *crowd) kill(t *testing.T, id int) {
	t.Helper()
	c.killed[id] = true
	for i, x := range c.steps {
		if c.asked[i] && x.To.ID == id {
			c.hear(t, i, c.will(t, x))
		}
	}
}

// ended tells whether all are over.
func (c *crowd) ended() bool {
	for _, s := range c.all {
		if s.Next().Kind != api.SDone {
			return false
		}
	}
	return true
}

// run lets them go on, in an order of chance, for at most so many steps.
func (c *crowd) run(t *testing.T, d *draw, steps int) {
	t.Helper()
	for range steps {
		if c.ended() {
			return
		}
		first, moved := d.below(len(c.all)), false
		for k := range c.all {
			if moved = c.move(t, (first+k)%len(c.all)); moved {
				break
			}
		}
		if !moved {
			t.Fatalf("all wait for each other: %v", c.steps)
		}
	}
}

// owner is that of one of many.
func owner(i int) api.Owner { return api.Owner{Agent: i, Op: 1} }

// P13.2 to P13.4: many at once, in an order of chance, into one list: all are in, each at its place, and no lock is held; and of those of one key one alone is.
func TestTogether(t *testing.T) {
	d := draw(21)
	for range 400 {
		l := drawn(&d, 0, 2+d.below(8))
		w := found(t, 0)
		var all []*Splice
		for i, me := range l {
			twin := api.Ref{ID: 500 + i, Key: me.Key, Vec: me.Vec}
			for k, r := range []api.Ref{me, twin}[:1+d.below(2)] {
				all = append(all, w.starts(t, r, 0, owner(i+100*k)))
			}
		}
		c := gather(w, all...)
		c.run(t, &d, 100000)
		w.row(t, v(""), c.winners(t)...)
	}
}

// P13.2 to P13.4: many at once into a list of bits.
func TestTogetherOfBits(t *testing.T) {
	d := draw(23)
	for range 200 {
		l := drawn(&d, 2, 2+d.below(8))
		w := found(t, 2)
		var all []*Splice
		for i := range l {
			l[i].Vec = v("10")
			all = append(all, w.starts(t, l[i], 1, owner(i)))
		}
		c := gather(w, all...)
		c.run(t, &d, 100000)
		w.row(t, v("1"), c.winners(t)...)
		w.row(t, v("10"))
		w.row(t, v(""))
	}
}

// starts lets one come, and begins to put it into the list of its first bits, from the head.
func (w town) starts(t *testing.T, me api.Ref, level int, o api.Owner) *Splice {
	t.Helper()
	w.come(t, me)
	c := settings(me, head(w.height), level)
	c.Owner = o
	return begin(t, c)
}

// winners are those that are in; all others must be told that their key is there.
func (c *crowd) winners(t *testing.T) []api.Ref {
	t.Helper()
	var in []api.Ref
	keys := map[api.Key]int{}
	for _, s := range c.all {
		x := s.Next()
		switch {
		case x.Kind == api.SDone && x.Result.E == api.OK:
			in = append(in, s.conf.Me)
			keys[s.conf.Me.Key]++
		case x.Kind != api.SDone || x.Result.E != api.ErrExists || x.Result.Right.Key != s.conf.Me.Key:
			t.Fatalf("%v wants %v", s.conf, x)
		}
	}
	for _, s := range c.all {
		if keys[s.conf.Me.Key] != 1 {
			t.Fatalf("%d of key %v", keys[s.conf.Me.Key], s.conf.Me.Key)
		}
	}
	return in
}

// row holds one list, read from the head on, against members in any order: each once, both sides told, and no lock held.
func (w town) row(t *testing.T, list api.Vec, l ...api.Ref) {
	t.Helper()
	left := map[int]int{}
	for _, r := range l {
		left[r.ID]++
	}
	last := head(w.height)
	for last != tail(w.height) {
		a := w.must(t, last, api.Ask{Kind: api.QRead, W: list})
		next := a.Right
		b := w.must(t, next, api.Ask{Kind: api.QRead, W: list})
		if !below(last.Key, next.Key) || b.Left != last {
			t.Fatalf("%v to the right of %v, %v to its left", next, last, b.Left)
		}
		left[next.ID]--
		last = next
	}
	left[1]++
	for id, n := range left {
		if n != 0 {
			t.Fatalf("%d is there once too often, or not: %d", id, n)
		}
	}
	for _, p := range w.peers {
		for _, r := range p.State().Recs {
			if r.Held || len(r.Waits) > 0 {
				t.Fatalf("held: %v", r)
			}
		}
	}
}

// P13.3, P13.4: many at once, while some are killed: none waits for one that is over, or holds a lock then; and what stands in each record is on its side.
func TestTogetherKilled(t *testing.T) {
	d := draw(22)
	for range 400 {
		l := drawn(&d, 0, 4+d.below(8))
		w := found(t, 0)
		var all []*Splice
		for i, me := range l {
			all = append(all, w.starts(t, me, 0, owner(i)))
		}
		c := gather(w, all...)
		for range 3 {
			c.run(t, &d, d.below(40))
			if id := 2 + d.below(len(l)); !c.killed[id] {
				c.kill(t, id)
			}
		}
		c.run(t, &d, 3000)
		for _, p := range w.peers {
			me := p.State().Me
			for _, r := range p.State().Recs {
				if me.ID > 1 && (!below(r.Left.Key, me.Key) || !below(me.Key, r.Right.Key)) {
					t.Fatalf("%v: %v", me, r)
				}
			}
		}
		c.held(t)
	}
}

// held holds the locks of the living against those that run: who is over has none.
func (c *crowd) held(t *testing.T) {
	t.Helper()
	for id, p := range c.peers {
		for _, r := range p.State().Recs {
			if r.Held && !c.killed[id] && c.all[r.Owner.Agent].Next().Kind != api.SAsk {
				t.Fatalf("%d is held by %v, which wants %v", id, r.Owner, c.all[r.Owner.Agent].Next())
			}
		}
	}
}
