package insert

import (
	"slices"
	"testing"

	"leapfrog/api"
	"leapfrog/unsplice"
)

// crowd is machines that run at once, against one town; who waits for an answer is told it later.
type crowd struct {
	town
	all   []machine
	watch []*watch // of insertions
	asked []bool   // its ask is out
	steps []api.Step
}

// joins lets one more machine run, with the Owner of its place.
func (c *crowd) joins(m machine, w *watch) {
	c.all, c.watch = append(c.all, m), append(c.watch, w)
	c.asked, c.steps = append(c.asked, false), append(c.steps, api.Step{})
}

// owner is that of the next one that joins.
func (c *crowd) owner() api.Owner { return api.Owner{Agent: len(c.all), Op: 1} }

// ins lets one come, and begins to insert it, from somebody on.
func (c *crowd) ins(t *testing.T, me, start api.Ref) {
	t.Helper()
	c.comes(t, me, start)
	c.joins(begin(t, api.InsertConf{Height: c.height, Me: me, Start: start, Owner: c.owner()}), &watch{})
}

// goer marks one, and takes it out of all its lists, the highest first.
type goer struct {
	me    api.Ref
	owner api.Owner
	level int // of the list that it leaves; one above the height while it is to be marked
	plays *unsplice.Unsplice
}

// goes begins to mark one, and to take it out.
func (c *crowd) goes(me api.Ref) {
	c.joins(&goer{me: me, owner: c.owner(), level: c.height + 1}, nil)
}

func (g *goer) Next() api.Step {
	switch {
	case g.level < 0:
		return over(api.OK)
	case g.plays == nil:
		return api.Step{Kind: api.SAsk, To: g.me, Ask: api.Ask{Kind: api.QMark}}
	}
	return g.plays.Next()
}

func (g *goer) Tell(a api.Answer) {
	if g.plays != nil {
		g.plays.Tell(a)
	}
	if g.plays == nil || g.plays.Next().Kind == api.SDone {
		g.level--
		// Behind its end there is no such list, and the machine is nil.
		w := api.Vec{Len: -1}
		if g.level >= 0 {
			w = first(g.me.Vec, g.level)
		}
		g.plays, _ = unsplice.New(api.UnspliceConf{W: w, Me: g.me, Owner: g.owner})
	}
}

func (g *goer) Wake() {
	if g.plays != nil {
		g.plays.Wake()
	}
}

// sees lets one's watch see what it wants, and is told.
func (c *crowd) sees(t *testing.T, i int, a api.Answer) {
	t.Helper()
	if w := c.watch[i]; w != nil {
		w.sees(t, c.steps[i], a)
	}
}

// hear tells a machine its answer.
func (c *crowd) hear(t *testing.T, i int, a api.Answer) {
	t.Helper()
	if !c.asked[i] {
		t.Fatalf("%d is answered %v, and asked nothing", i, a)
	}
	c.asked[i] = false
	c.sees(t, i, a)
	c.all[i].Tell(a)
}

// move lets one go on by a step: did it?
func (c *crowd) move(t *testing.T, i int) bool {
	t.Helper()
	if c.asked[i] {
		return false
	}
	x := c.all[i].Next()
	c.steps[i] = x
	if x.Kind != api.SAsk {
		c.sees(t, i, api.Answer{})
		c.all[i].Wake()
		return x.Kind == api.SWait
	}
	c.asked[i] = true
	if c.killed[x.To.ID] {
		c.hear(t, i, c.will(t, x.To.ID, x.Ask.W))
		return true
	}
	l, e := c.peers[x.To.ID].Ask(i, x.Ask)
	if e != api.OK {
		t.Fatalf("%v: %d", x, e)
	}
	for _, r := range l {
		c.hear(t, r.Ticket, r.Answer)
	}
	return true
}

// kill kills one: those whose asks it did not answer are told its will.
func (c *crowd) kill(t *testing.T, id int) {
	t.Helper()
	c.killed[id] = true
	for i, x := range c.steps {
		if c.asked[i] && x.To.ID == id {
			c.hear(t, i, c.will(t, id, x.Ask.W))
		}
	}
}

// ended tells whether all are over.
func (c *crowd) ended() bool {
	return !slices.ContainsFunc(c.all, func(m machine) bool { return m.Next().Kind != api.SDone })
}

// run lets them go on, in an order of chance, for at most so many steps.
func (c *crowd) run(t *testing.T, d *draw, steps int) {
	t.Helper()
	for range steps {
		if c.ended() {
			return
		}
		start, moved := d.below(len(c.all)), false
		for k := range c.all {
			if moved = c.move(t, (start+k)%len(c.all)); moved {
				break
			}
		}
		if !moved {
			t.Fatalf("all wait for each other: %v", c.steps)
		}
	}
}

// winners are those whose insertions are over with OK; all others must be told that their key is there.
func (c *crowd) winners(t *testing.T) []api.Ref {
	t.Helper()
	var in []api.Ref
	for _, x := range c.all {
		m, is := x.(*Insert)
		if !is {
			continue
		}
		switch n := m.Next(); {
		case same(n, over(api.OK)):
			in = append(in, m.conf.Me)
		case !same(n, over(api.ErrExists)):
			t.Fatalf("%v wants %v", m.conf, n)
		}
	}
	return in
}

// P15.2, P15.3: many come at once, from anybody who is there, two of one key among them: all end, of those of one key one alone with OK, all stand as in the graph of these, and no lock is held.
func TestTogether(t *testing.T) {
	d := draw(41)
	for range 250 {
		height := d.below(4)
		l := drawn(&d, height, 2+d.below(9), false)
		old := d.below(len(l))
		c := &crowd{town: found(t, height, l[:old]...)}
		somebody := append([]api.Ref{low(height), high(height)}, l[:old]...)
		keys := map[api.Key]int{}
		for i, me := range l[old:] {
			twin := api.Ref{ID: 500 + i, Key: me.Key, Vec: l[0].Vec}
			for _, r := range []api.Ref{me, twin}[:1+d.below(2)] {
				c.ins(t, r, somebody[d.below(len(somebody))])
			}
			keys[me.Key] = 1
		}
		c.run(t, &d, 100000)
		in := c.winners(t)
		for _, me := range in {
			keys[me.Key]--
		}
		for k, n := range keys {
			if n != 0 {
				t.Fatalf("of key %v it is %d too few", k, n)
			}
		}
		c.stands(t, append(in, l[:old]...)...)
	}
}

// P15.2, P15.3: many come while others go, some of those with their keys: all end; who was told that it came is in all its lists, who goes is in none, and no lock is held.
func TestTogetherGoing(t *testing.T) {
	d := draw(42)
	came, late := 0, 0
	for range 250 {
		height := d.below(4)
		l := drawn(&d, height, 2+d.below(9), false)
		old := 1 + d.below(len(l)-1)
		c := &crowd{town: found(t, height, l[:old]...)}
		somebody := append([]api.Ref{low(height), high(height)}, l[:old]...)
		n := 1 + d.below(old)
		for i, me := range l[:n] {
			c.goes(me)
			if d.below(2) == 0 {
				c.ins(t, api.Ref{ID: 500 + i, Key: me.Key, Vec: l[d.below(len(l))].Vec}, somebody[d.below(len(somebody))])
			}
		}
		for _, me := range l[old:] {
			c.ins(t, me, somebody[d.below(len(somebody))])
		}
		c.run(t, &d, 100000)
		in := c.winners(t)
		for _, me := range in {
			came++
			if me.ID >= 500 {
				late++
			}
		}
		for _, me := range l[:n] {
			if s := c.states()[me.ID]; len(s.Recs) > 0 || !s.Marked {
				t.Fatalf("%v", s)
			}
			delete(c.peers, me.ID)
		}
		c.stands(t, append(in, l[n:old]...)...)
	}
	if came < 500 || late < 100 {
		t.Errorf("%d came, %d of them behind one of their key", came, late)
	}
}

// P15.3: many come at once, while some are killed: none waits for a lock that nobody gives back, who waits or is over holds none, and what stands in each record is on its side.
func TestTogetherKilled(t *testing.T) {
	d := draw(43)
	ends := map[api.Errno]int{}
	for range 250 {
		height := d.below(3)
		l := drawn(&d, height, 4+d.below(8), false)
		old := d.below(len(l) - 2)
		c := &crowd{town: found(t, height, l[:old]...)}
		somebody := append([]api.Ref{low(height), high(height)}, l[:old]...)
		for _, me := range l[old:] {
			c.ins(t, me, somebody[d.below(len(somebody))])
		}
		for range 3 {
			c.run(t, &d, d.below(80))
			if id := 2 + d.below(len(l)); !c.killed[id] {
				c.kill(t, id)
			}
		}
		c.run(t, &d, 3000)
		for _, m := range c.all {
			if x := m.Next(); x.Kind == api.SDone {
				ends[x.Result.E]++
			}
		}
		c.sorted(t)
		c.held(t)
	}
	if ends[api.OK] < 400 || ends[api.ErrDead] < 100 || len(ends) != 2 {
		t.Error(ends)
	}
}

// sorted holds what stands in each record against its peer.
func (c *crowd) sorted(t *testing.T) {
	t.Helper()
	for _, s := range c.states() {
		for _, r := range s.Recs {
			if s.Me.ID != 0 && !below(r.Left.Key, s.Me.Key) || s.Me.ID != 1 && !below(s.Me.Key, r.Right.Key) {
				t.Fatalf("%v: %v", s.Me, r)
			}
		}
	}
}

// held holds the locks of the living against those that run: who is over, or waits, has none.
func (c *crowd) held(t *testing.T) {
	t.Helper()
	for id, s := range c.states() {
		for _, r := range s.Recs {
			if r.Held && !c.killed[id] && c.all[r.Owner.Agent].Next().Kind != api.SAsk {
				t.Fatalf("%d is held by %v, which wants %v", id, r.Owner, c.all[r.Owner.Agent].Next())
			}
		}
	}
}
