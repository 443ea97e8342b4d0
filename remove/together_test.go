package remove

import (
	"slices"
	"testing"

	"leapfrog/api"
	"leapfrog/insert"
)

// crowd is machines that run at once, against one town; who waits for an answer is told it later.
type crowd struct {
	town
	all   []machine
	who   []api.Ref // who comes, or whose key goes
	asked []bool    // its ask is out
	steps []api.Step
}

// joins lets one more machine run.
func (c *crowd) joins(m machine, who api.Ref) {
	c.all, c.who = append(c.all, m), append(c.who, who)
	c.asked, c.steps = append(c.asked, false), append(c.steps, api.Step{})
}

// owner is that of the next one that joins.
func (c *crowd) owner() api.Owner { return api.Owner{Agent: len(c.all), Op: 1} }

// in lets one come, and begins to insert it, from somebody on.
func (c *crowd) in(t *testing.T, me, start api.Ref) {
	t.Helper()
	c.joins(c.comes(t, me, start, c.owner()), me)
}

// out begins to remove a peer's key, from somebody on.
func (c *crowd) out(t *testing.T, x, start api.Ref) {
	t.Helper()
	m := begin(t, api.RemoveConf{Height: c.height, Start: start, Key: x.Key.N, Owner: c.owner()})
	c.seen[m] = &watch{key: x.Key.N}
	c.joins(m, x)
}

// sees lets one's watch see what it wants, and is told.
func (c *crowd) sees(t *testing.T, i int, a api.Answer) {
	t.Helper()
	if w := c.seen[c.all[i]]; w != nil {
		w.sees(t, c.steps[i], a)
	}
}

// hear tells a machine its answer.
func (c *crowd) hear(t *testing.T, i int, a api.Answer) {
	t.Helper()
	if !c.asked[i] {
		t.Fatalf("%d is answered %v, and asked nothing", i, a)
	}
	c.asked[i] = false
	c.sees(t, i, a)
	c.all[i].Tell(a)
}

// move lets one go on by a step: did it?
func (c *crowd) move(t *testing.T, i int) bool {
	t.Helper()
	if c.asked[i] {
		return false
	}
	x := c.all[i].Next()
	c.steps[i] = x
	if x.Kind != api.SAsk {
		c.sees(t, i, api.Answer{})
		c.all[i].Wake()
		return x.Kind == api.SWait
	}
	c.asked[i] = true
	if c.killed[x.To.ID] {
		c.hear(t, i, c.will(t, x.To.ID, x.Ask.W))
		return true
	}
	l, e := c.peers[x.To.ID].Ask(i, x.Ask)
	if e != api.OK {
		t.Fatalf("%v: %d", x, e)
	}
	for _, r := range l {
		c.hear(t, r.Ticket, r.Answer)
	}
	return true
}

// kill kills one: those whose asks it did not answer are told its will.
func (c *crowd) kill(t *testing.T, id int) {
	t.Helper()
	c.killed[id] = true
	for i, x := range c.steps {
		if c.asked[i] && x.To.ID == id {
			c.hear(t, i, c.will(t, id, x.Ask.W))
		}
	}
}

// ended tells whether all are over.
func (c *crowd) ended() bool {
	return !slices.ContainsFunc(c.all, func(m machine) bool { return m.Next().Kind != api.SDone })
}

// goOn lets them go on, in an order of chance, for at most so many steps.
func (c *crowd) goOn(t *testing.T, d *draw, steps int) {
	t.Helper()
	for range steps {
		if c.ended() {
			return
		}
		start, moved := d.below(len(c.all)), false
		for k := range c.all {
			if moved = c.move(t, (start+k)%len(c.all)); moved {
				break
			}
		}
		if !moved {
			t.Fatalf("all wait for each other: %v", c.steps)
		}
	}
}

// left are those that are there in the end, by what was told: each that was there or came, and of whose key less removals were told OK than insertions.
func (c *crowd) left(t *testing.T, old []api.Ref) []api.Ref {
	t.Helper()
	there := slices.Clone(old)
	for i, m := range c.all {
		if _, is := m.(*insert.Insert); is && same(m.Next(), over(api.OK)) {
			there = append(there, c.who[i])
		} else if is && !same(m.Next(), over(api.ErrExists)) {
			t.Fatalf("%v wants %v", c.who[i], m.Next())
		}
	}
	for i, m := range c.all {
		r, is := m.(*Remove)
		if !is {
			continue
		}
		x := r.Next()
		if r.Marked() != same(x, over(api.OK)) || !r.Marked() && !same(x, over(api.ErrAbsent)) {
			t.Fatalf("%v: marked %t, wants %v", c.who[i], r.Marked(), x)
		}
		if !r.Marked() {
			continue
		}
		n := len(there)
		there = without(there, c.seen[m].x)
		if len(there) != n-1 {
			t.Fatalf("%v is marked twice, or was never there", c.seen[m].x)
		}
	}
	return there
}

// P16.3, P16.4, P16.5: many go at once, some by two, some that are not there, from anybody: all end; of those of one key one alone with OK; all stand as in the graph of those that are left, and no lock is held.
func TestTogether(t *testing.T) {
	d := draw(61)
	for range 250 {
		height := d.below(4)
		l := drawn(&d, height, 2+d.below(9), false)
		c := &crowd{town: found(t, height, l...)}
		somebody := append([]api.Ref{low(height), high(height)}, l...)
		n := 1 + d.below(len(l))
		for _, x := range l[:n] {
			for range 1 + d.below(3) {
				c.out(t, x, somebody[d.below(len(somebody))])
			}
			c.out(t, api.Ref{Key: at(100)}, somebody[d.below(len(somebody))])
		}
		c.goOn(t, &d, 100000)
		left := c.left(t, l)
		if len(left) != len(l)-n {
			t.Fatalf("%v of %v are left", left, l)
		}
		c.stands(t, l[n:]...)
	}
}

// P16.3, P16.4, P16.5: many go while others come, some of those with their keys, and some of those that come go at once: all end, all stand as in the graph of those that are left by what was told, and no lock is held.
func TestTogetherComing(t *testing.T) {
	d := draw(62)
	came, late, lost := 0, 0, 0
	for range 300 {
		height := d.below(4)
		l := drawn(&d, height, 2+d.below(9), false)
		old := 1 + d.below(len(l)-1)
		c := &crowd{town: found(t, height, l[:old]...)}
		somebody := append([]api.Ref{low(height), high(height)}, l[:old]...)
		anybody := func() api.Ref { return somebody[d.below(len(somebody))] }
		for _, me := range l[old:] {
			c.in(t, me, anybody())
			if d.below(2) == 0 {
				c.goOn(t, &d, d.below(60))
				c.out(t, me, anybody())
			}
		}
		for i, x := range l[:1+d.below(old)] {
			c.out(t, x, anybody())
			if d.below(2) == 0 {
				c.in(t, api.Ref{ID: 500 + i, Key: x.Key, Vec: l[d.below(len(l))].Vec}, anybody())
				c.goOn(t, &d, d.below(100))
				c.out(t, x, anybody())
			}
		}
		c.goOn(t, &d, 100000)
		left := c.left(t, l[:old])
		c.stands(t, left...)
		for _, m := range c.all {
			r, is := m.(*Remove)
			switch {
			case is && !r.Marked():
				lost++
			case is && c.seen[m].x.ID >= 500:
				late++
			case is && !slices.Contains(l[:old], c.seen[m].x):
				came++
			}
		}
	}
	if came < 100 || late < 30 || lost < 200 {
		t.Errorf("%d that had come went, and %d behind one of their key; %d were told that it is absent", came, late, lost)
	}
}

// P16.5: many go and come at once, while some are killed: none waits for a lock that nobody gives back, who waits or is over holds none, and what stands in each record is on its side.
func TestTogetherKilled(t *testing.T) {
	d := draw(63)
	ends := map[api.Errno]int{}
	for range 250 {
		height := d.below(3)
		l := drawn(&d, height, 4+d.below(8), false)
		old := 2 + d.below(len(l)-2)
		c := &crowd{town: found(t, height, l[:old]...)}
		somebody := append([]api.Ref{low(height), high(height)}, l[:old]...)
		for _, x := range l {
			start := somebody[d.below(len(somebody))]
			if slices.Contains(l[:old], x) {
				c.out(t, x, start)
			} else {
				c.in(t, x, start)
			}
		}
		for range 3 {
			c.goOn(t, &d, d.below(80))
			if id := 2 + d.below(len(l)); !c.killed[id] {
				c.kill(t, id)
			}
		}
		c.goOn(t, &d, 3000)
		for _, m := range c.all {
			if x := m.Next(); c.seen[m] != nil && x.Kind == api.SDone {
				ends[x.Result.E]++
			}
		}
		c.sorted(t)
		c.held(t)
	}
	if ends[api.OK] < 400 || ends[api.ErrDead] < 50 {
		t.Error(ends)
	}
}

// sorted holds what stands in each record against its peer.
func (c *crowd) sorted(t *testing.T) {
	t.Helper()
	for _, s := range c.states() {
		for _, r := range s.Recs {
			if s.Me.ID != 0 && !below(r.Left.Key, s.Me.Key) || s.Me.ID != 1 && !below(s.Me.Key, r.Right.Key) {
				t.Fatalf("%v: %v", s.Me, r)
			}
		}
	}
}

// held holds the locks of the living against those that run: who is over, or waits, has none.
func (c *crowd) held(t *testing.T) {
	t.Helper()
	for id, s := range c.states() {
		for _, r := range s.Recs {
			if r.Held && !c.killed[id] && c.all[r.Owner.Agent].Next().Kind != api.SAsk {
				t.Fatalf("%d is held by %v, which wants %v", id, r.Owner, c.all[r.Owner.Agent].Next())
			}
		}
	}
}
