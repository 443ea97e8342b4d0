package scan

import (
	"slices"
	"testing"

	"leapfrog/api"
	"leapfrog/remove"
)

// crowd is machines that run at once, against one town; who waits for an answer is told it later.
type crowd struct {
	town
	all   []machine
	asked []bool // its ask is out
	steps []api.Step
}

// joins lets one more machine run.
func (c *crowd) joins(m machine) {
	c.all, c.asked, c.steps = append(c.all, m), append(c.asked, false), append(c.steps, api.Step{})
}

// owner is that of the next one that joins.
func (c *crowd) owner() api.Owner { return api.Owner{Agent: len(c.all), Op: 1} }

// in lets one come, from somebody on.
func (c *crowd) in(t *testing.T, me, start api.Ref) {
	t.Helper()
	c.joins(c.comes(t, me, start, c.owner()))
}

// out begins to remove a key, from somebody on.
func (c *crowd) out(t *testing.T, k uint64, start api.Ref) {
	t.Helper()
	m, e := remove.New(api.RemoveConf{Height: c.height, Start: start, Key: k, Owner: c.owner()})
	if e != api.OK {
		t.Fatal(e)
	}
	c.joins(m)
}

// ranges begins to range, from somebody on.
func (c *crowd) ranges(t *testing.T, conf api.ScanConf) *Scan {
	t.Helper()
	m := begin(t, conf)
	c.joins(m)
	return m
}

// hear tells a machine its answer.
func (c *crowd) hear(t *testing.T, i int, a api.Answer) {
	t.Helper()
	if !c.asked[i] {
		t.Fatalf("%d is answered %v, and asked nothing", i, a)
	}
	c.asked[i] = false
	c.all[i].Tell(a)
}

// move lets one go on by a step: did it?
func (c *crowd) move(t *testing.T, i int) bool {
	t.Helper()
	if c.asked[i] {
		return false
	}
	x := c.all[i].Next()
	c.steps[i] = x
	if x.Kind != api.SAsk {
		c.all[i].Wake()
		return x.Kind == api.SWait
	}
	if _, is := c.all[i].(*Scan); is && x.Ask.Kind != api.QRead && x.Ask.Kind != api.QGet {
		t.Fatalf("a scan wants %v", x)
	}
	c.asked[i] = true
	if c.killed[x.To.ID] {
		c.hear(t, i, c.will(t, x.To.ID, x.Ask.W))
		return true
	}
	l, e := c.peers[x.To.ID].Ask(i, x.Ask)
	if e != api.OK {
		t.Fatalf("%v: %d", x, e)
	}
	for _, r := range l {
		c.hear(t, r.Ticket, r.Answer)
	}
	return true
}

// kill kills one: those whose asks it did not answer are told its will.
func (c *crowd) kill(t *testing.T, id int) {
	t.Helper()
	c.killed[id] = true
	for i, x := range c.steps {
		if c.asked[i] && x.To.ID == id {
			c.hear(t, i, c.will(t, id, x.Ask.W))
		}
	}
}

// ended tells whether all are over.
func (c *crowd) ended() bool {
	return !slices.ContainsFunc(c.all, func(m machine) bool { return m.Next().Kind != api.SDone })
}

// goOn lets them go on, in an order of chance, for at most so many steps.
func (c *crowd) goOn(t *testing.T, d *draw, steps int) {
	t.Helper()
	for range steps {
		if c.ended() {
			return
		}
		start := d.below(len(c.all))
		for k := range c.all {
			if c.move(t, (start+k)%len(c.all)) {
				break
			}
		}
	}
}

// ends lets the scans alone go on, till they are over, or no more can be.
func (c *crowd) ends(t *testing.T, steps int) {
	t.Helper()
	for range steps {
		for i, m := range c.all {
			if _, is := m.(*Scan); is {
				c.move(t, i)
			}
		}
	}
}

// sure are those that stay: of whom nobody takes any away, and whom nobody kills.
type sure struct {
	stay []api.Ref
	ever []api.Ref
}

// tellsOf tells whether items have one's.
func tellsOf(l []api.Item, x api.Ref) bool {
	return slices.ContainsFunc(l, func(i api.Item) bool {
		return x.Key == at(i.Key) && string(value(x)) == string(i.Value)
	})
}

// holds holds what a scan told against those that stay, and those that ever were.
func (s sure) holds(t *testing.T, c api.ScanConf, r api.Result) {
	t.Helper()
	if r.E == api.ErrBusy && len(r.Items) == 0 {
		return
	}
	if r.E != api.OK {
		t.Fatalf("%v: %v", c, r)
	}
	for _, x := range s.stay {
		if c.Low <= x.Key.N && x.Key.N <= c.High && !tellsOf(r.Items, x) {
			t.Fatalf("%v: %v; %v stays", c, r, x)
		}
	}
	for i, x := range r.Items {
		if x.Key < c.Low || x.Key > c.High || i > 0 && x.Key <= r.Items[i-1].Key {
			t.Fatalf("%v: %v", c, r)
		}
		if !slices.ContainsFunc(s.ever, func(y api.Ref) bool { return tellsOf([]api.Item{x}, y) }) {
			t.Fatalf("%v: %v of %v", c, r, s.ever)
		}
	}
}

// tally is how scans ended, and how often they sought again.
type tally struct {
	over  map[api.Errno]int
	again int
}

// mixed lets some come, some go, and some range, at once; with kills, some are killed, too: how the scans ended.
func mixed(t *testing.T, d *draw, kills int, saw *tally) {
	t.Helper()
	height := d.below(4)
	l := drawn(d, height, 6+d.below(10), false)
	old := 3 + d.below(len(l)-4)
	c := &crowd{town: found(t, height, l[:old]...)}
	stay := l[:1+d.below(old-1)]
	leaving := l[len(stay):old]
	start := func() api.Ref {
		return append([]api.Ref{low(height), high(height)}, stay...)[d.below(2+len(stay))]
	}
	confs := map[*Scan]api.ScanConf{}
	ranges := func() {
		k := uint64(d.below(2 * len(l)))
		conf := api.ScanConf{Height: height, Start: start(), Low: k, High: k + uint64(d.below(3*len(l)))}
		confs[c.ranges(t, conf)] = conf
	}
	for _, x := range leaving {
		c.out(t, x.Key.N, start())
		ranges()
		ranges()
	}
	for _, x := range l[old:] {
		c.in(t, x, start())
		ranges()
		c.goOn(t, d, d.below(40))
		ranges()
	}
	for range kills {
		c.goOn(t, d, d.below(60))
		if x := l[len(stay)+d.below(len(l)-len(stay))]; !c.killed[x.ID] {
			c.kill(t, x.ID)
		}
	}
	c.goOn(t, d, 4000)
	c.ends(t, 3000)
	for m, conf := range confs {
		x := m.Next()
		if x.Kind != api.SDone {
			t.Fatalf("%v wants %v", conf, x)
		}
		sure{stay, l}.holds(t, conf, x.Result)
		saw.over[x.Result.E]++
		saw.again += m.Tries()
	}
}

// P18.5, P18.6: beside others that come and go: all that stay are told, in their order; nobody is told who never was.
func TestTogether(t *testing.T) {
	d := draw(71)
	saw := tally{over: map[api.Errno]int{}}
	for range 80 {
		mixed(t, &d, 0, &saw)
	}
	if saw.over[api.OK] < 600 || saw.over[api.ErrBusy] > 0 || saw.again < 10 {
		t.Error(saw)
	}
}

// P18.5, P18.6: and while some of those are killed.
func TestTogetherKilled(t *testing.T) {
	d := draw(72)
	saw := tally{over: map[api.Errno]int{}}
	for range 80 {
		mixed(t, &d, 3, &saw)
	}
	if saw.over[api.OK] < 600 || saw.again < 200 {
		t.Error(saw)
	}
}
