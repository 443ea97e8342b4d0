package unsplice

import (
	"reflect"
	"slices"
	"testing"

	"leapfrog/api"
	"leapfrog/splice"
)

// machine is what runs in a crowd.
type machine interface {
	Next() api.Step
	Tell(a api.Answer)
	Wake()
}

// crowd is machines that run at once, against one town; who waits for a lock is answered later.
type crowd struct {
	town
	all   []machine
	seen  []*watch // of those that take somebody out
	asked []bool   // its ask is out
	steps []api.Step
}

// joins lets one more machine run, with the Owner of its place.
func (c *crowd) joins(m machine, w *watch) {
	c.all, c.seen = append(c.all, m), append(c.seen, w)
	c.asked, c.steps = append(c.asked, false), append(c.steps, api.Step{})
}

// owner is that of the next one that joins.
func (c *crowd) owner() api.Owner { return api.Owner{Agent: len(c.all), Op: 1} }

// outs begins to take one out of the list of its first bits.
func (c *crowd) outs(t *testing.T, me api.Ref, level int) {
	t.Helper()
	u := begin(t, api.UnspliceConf{W: first(me.Vec, level), Me: me, Owner: c.owner()})
	c.joins(u, &watch{me: me})
}

// ins lets one come, and begins to put it into the list of its first bits, from the head.
func (c *crowd) ins(t *testing.T, me api.Ref, level int) {
	t.Helper()
	c.come(t, me)
	s, e := splice.New(api.SpliceConf{W: first(me.Vec, level), Me: me, From: head(c.height), Owner: c.owner()})
	if e != api.OK {
		t.Fatalf("splice.New: %d", e)
	}
	c.joins(s, nil)
}

// sees lets one's watch see what it wants, and is told.
func (c *crowd) sees(t *testing.T, i int, a api.Answer) {
	t.Helper()
	if m := c.seen[i]; m != nil {
		m.sees(t, c.steps[i], a)
	}
}

// hear tells a machine its answer.
func (c *crowd) hear(t *testing.T, i int, a api.Answer) {
	t.Helper()
	if !c.asked[i] {
		t.Fatalf("%d is answered %v, and asked nothing", i, a)
	}
	c.asked[i] = false
	c.sees(t, i, a)
	c.all[i].Tell(a)
}

// move lets one go on by a step: did it?
func (c *crowd) move(t *testing.T, i int) bool {
	t.Helper()
	if c.asked[i] {
		return false
	}
	x := c.all[i].Next()
	c.steps[i] = x
	if x.Kind != api.SAsk {
		c.sees(t, i, api.Answer{})
		c.all[i].Wake()
		return x.Kind == api.SWait
	}
	c.asked[i] = true
	if c.killed[x.To.ID] {
		c.hear(t, i, c.will(t, x.To.ID, x.Ask.W))
		return true
	}
	l, e := c.peers[x.To.ID].Ask(i, x.Ask)
	if e != api.OK {
		t.Fatalf("%v: %d", x, e)
	}
	for _, r := range l {
		c.hear(t, r.Ticket, r.Answer)
	}
	return true
}

// kill kills one: those whose asks it did not answer are told its will.
func (c *crowd) kill(t *testing.T, id int) {
	t.Helper()
	c.killed[id] = true
	for i, x := range c.steps {
		if c.asked[i] && x.To.ID == id {
			c.hear(t, i, c.will(t, id, x.Ask.W))
		}
	}
}

// ended tells whether all are over.
func (c *crowd) ended() bool {
	return !slices.ContainsFunc(c.all, func(m machine) bool { return m.Next().Kind != api.SDone })
}

// run lets them go on, in an order of chance, for at most so many steps.
func (c *crowd) run(t *testing.T, d *draw, steps int) {
	t.Helper()
	for range steps {
		if c.ended() {
			return
		}
		start, moved := d.below(len(c.all)), false
		for k := range c.all {
			if moved = c.move(t, (start+k)%len(c.all)); moved {
				break
			}
		}
		if !moved {
			t.Fatalf("all wait for each other: %v", c.steps)
		}
	}
}

// ids are those of a row of peers, by their keys.
func ids(l []api.Ref) []int {
	l = slices.Clone(l)
	slices.SortFunc(l, func(a, b api.Ref) int {
		if below(a.Key, b.Key) {
			return -1
		}
		return 1
	})
	var all []int
	for _, r := range l {
		all = append(all, r.ID)
	}
	return all
}

// allOK holds that all that take somebody out are over, with OK.
func (c *crowd) allOK(t *testing.T) {
	t.Helper()
	for i, m := range c.all {
		if x := m.Next(); c.seen[i] != nil && !same(x, over(api.OK)) {
			t.Fatalf("%d of %d wants %v", i, len(c.all), x)
		}
	}
}

// P14.3 to P14.5: many at once out of one list, neighbours and twice the same ones among them, in an order of chance: all end with OK, those that stay are there, and no lock is held.
func TestTogether(t *testing.T) {
	d := draw(31)
	for range 400 {
		l := drawn(&d, 0, 1+d.below(9))
		c := &crowd{town: found(t, 0, l...)}
		n := d.below(len(l) + 1)
		for _, me := range l[:n] {
			for range 1 + d.below(2) {
				c.outs(t, me, 0)
			}
		}
		c.run(t, &d, 10000)
		c.allOK(t)
		c.stands(t, l[n:]...)
	}
}

// P14.3 to P14.5: many at once out of a list of bits; the other lists stand as they stood.
func TestTogetherOfBits(t *testing.T) {
	d := draw(32)
	for range 200 {
		l := drawn(&d, 2, 1+d.below(9))
		for i := range l {
			l[i].Vec = v("10")
		}
		c := &crowd{town: found(t, 2, l...)}
		before := c.others(v("1"))
		n := d.below(len(l) + 1)
		for _, me := range l[:n] {
			c.outs(t, me, 1)
		}
		c.run(t, &d, 10000)
		c.allOK(t)
		if got := c.besides(t, v("1")); !slices.Equal(got, ids(l[n:])) {
			t.Fatalf("%v; not %v", got, ids(l[n:]))
		}
		if after := c.others(v("1")); !reflect.DeepEqual(before, after) {
			t.Fatalf("%v; not %v", after, before)
		}
		c.free(t)
	}
}

// P14.4, P14.5: many go while others come: all are over, those that go are out, those that were told that they came are in, and no lock is held.
func TestTogetherComing(t *testing.T) {
	d := draw(33)
	came := 0
	for range 400 {
		l := drawn(&d, 0, 2+d.below(9))
		old := 1 + d.below(len(l)-1)
		c := &crowd{town: found(t, 0, l[:old]...)}
		n := 1 + d.below(old)
		for _, me := range l[:n] {
			c.outs(t, me, 0)
		}
		in := slices.Clone(l[n:old])
		for _, me := range l[old:] {
			c.ins(t, me, 0)
		}
		c.run(t, &d, 10000)
		c.allOK(t)
		for i, me := range l[old:] {
			switch x := c.all[n+i].Next(); {
			case x.Kind == api.SDone && x.Result.E == api.OK:
				in = append(in, me)
				came++
			case x.Kind != api.SDone || x.Result.E != api.ErrAgain:
				t.Fatalf("%v wants %v", me, x)
			}
		}
		c.stands(t, in...)
	}
	if came < 400 {
		t.Errorf("%d came", came)
	}
}

// P14.4, P14.5: many at once, while some are killed: none waits for a lock that nobody gives back, who waits or is over holds none, and what stands in each record is on its side.
func TestTogetherKilled(t *testing.T) {
	d := draw(34)
	ends := map[api.Errno]int{}
	for range 400 {
		l := drawn(&d, 0, 4+d.below(8))
		c := &crowd{town: found(t, 0, l...)}
		for _, me := range l[:1+d.below(len(l))] {
			c.outs(t, me, 0)
		}
		for range 3 {
			c.run(t, &d, d.below(40))
			if id := 2 + d.below(len(l)); !c.killed[id] {
				c.kill(t, id)
			}
		}
		c.run(t, &d, 2000)
		for _, m := range c.all {
			if x := m.Next(); x.Kind == api.SDone {
				ends[x.Result.E]++
			}
		}
		c.sorted(t)
		c.held(t)
	}
	if ends[api.OK] < 400 || ends[api.ErrDead] < 100 || len(ends) != 2 {
		t.Error(ends)
	}
}

// sorted holds what stands in each record against its peer.
func (c *crowd) sorted(t *testing.T) {
	t.Helper()
	for _, p := range c.peers {
		me := p.State().Me
		for _, r := range p.State().Recs {
			if me.ID != 0 && !below(r.Left.Key, me.Key) || me.ID != 1 && !below(me.Key, r.Right.Key) {
				t.Fatalf("%v: %v", me, r)
			}
		}
	}
}

// held holds the locks of the living against those that run: who is over, or waits, has none.
func (c *crowd) held(t *testing.T) {
	t.Helper()
	for id, p := range c.peers {
		for _, r := range p.State().Recs {
			if r.Held && !c.killed[id] && c.all[r.Owner.Agent].Next().Kind != api.SAsk {
				t.Fatalf("%d is held by %v, which wants %v", id, r.Owner, c.all[r.Owner.Agent].Next())
			}
		}
	}
}
