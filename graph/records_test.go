package graph

import (
	"fmt"
	"slices"
	"strings"
	"testing"

	"leapfrog/api"
	"leapfrog/link"
	"leapfrog/peer"
)

// record is what one has of a list by definition.
func (s sample) record(w api.Vec, one api.Ref) api.RecState {
	r := api.RecState{W: w}
	if one.ID != 0 {
		r.Left = s.next(w, one, true)
	}
	if one.ID != 1 {
		r.Right = s.next(w, one, false)
	}
	return r
}

// records are one's by definition, in the order of their lists' texts; of an end those of lists with members.
func (s sample) records(one api.Ref) []api.RecState {
	var texts []string
	for _, m := range s.l {
		for n := range s.height + 1 {
			if one.ID < 2 || m == one {
				texts = append(texts, bits(m.Vec)[:n])
			}
		}
	}
	slices.Sort(texts)
	var l []api.RecState
	for _, w := range slices.Compact(texts) {
		l = append(l, s.record(v(w), one))
	}
	return l
}

// P11.4: the states of the ends, and of all members by their IDs.
func TestRecords(t *testing.T) {
	for _, s := range samples() {
		all := append([]api.Ref{head(s.height), tail(s.height)}, s.l...)
		slices.SortFunc(all, func(a, b api.Ref) int { return a.ID - b.ID })
		l, e := Records(s.height, s.l...)
		if len(l) != len(all) || e != 0 {
			t.Fatalf("Records(%d, %v): %d states, %d", s.height, s.l, len(l), e)
		}
		for i, x := range l {
			if x.Me != all[i] || len(x.Value) != 0 || !x.Joined || x.Marked {
				t.Errorf("state %d of %d, %v: %v; not of %v", i, s.height, s.l, x, all[i])
			}
			if want := s.records(all[i]); !slices.EqualFunc(x.Recs, want, link.Same) {
				t.Errorf("records of %v among %v: %v; not %v", all[i], s.l, x.Recs, want)
			}
		}
	}
}

// P11.4: the records of the example, written out.
func TestRecordsOfSome(t *testing.T) {
	a, b, c := ref(2, 3, "0"), ref(3, 5, "1"), ref(4, 9, "0")
	h, l := head(1), tail(1)
	rec := func(w string, left, right api.Ref) api.RecState {
		return api.RecState{W: v(w), Left: left, Right: right}
	}
	none := api.Ref{}
	want := []api.PeerState{
		{Me: h, Joined: true, Recs: []api.RecState{rec("", none, a), rec("0", none, a), rec("1", none, b)}},
		{Me: l, Joined: true, Recs: []api.RecState{rec("", c, none), rec("0", c, none), rec("1", b, none)}},
		{Me: a, Joined: true, Recs: []api.RecState{rec("", h, b), rec("0", h, c)}},
		{Me: b, Joined: true, Recs: []api.RecState{rec("", a, c), rec("1", h, l)}},
		{Me: c, Joined: true, Recs: []api.RecState{rec("", b, l), rec("0", a, l)}},
	}
	if got, e := Records(1, c, b, a); fmt.Sprint(got) != fmt.Sprint(want) || e != 0 {
		t.Errorf("Records = %v, %d", got, e)
	}
}

// P11.4: without members the ends stand as they were made.
func TestRecordsOfEnds(t *testing.T) {
	for _, height := range []int{0, 1, 32} {
		low, _ := peer.End(false, height)
		high, _ := peer.End(true, height)
		want := []api.PeerState{low.State(), high.State()}
		if got, e := Records(height); fmt.Sprint(got) != fmt.Sprint(want) || e != 0 {
			t.Errorf("Records(%d) = %v, %d", height, got, e)
		}
	}
}

// P11.4: peers that are asked to stand where Records tells come to just these states.
func TestRecordsOfPeers(t *testing.T) {
	o := api.Owner{Op: 1}
	for _, s := range samples() {
		l, _ := Records(s.height, s.l...)
		for i, x := range l {
			p, e := peer.End(i == 1, s.height)
			if i > 1 {
				p, e = peer.New(x.Me, nil)
			}
			if e != api.OK {
				t.Fatalf("%v: %d", x.Me, e)
			}
			var asks []api.Ask
			for _, r := range x.Recs {
				asks = append(asks, stand(i, r, o)...)
			}
			if i > 1 {
				asks = append(asks, api.Ask{Kind: api.QJoined})
			}
			for _, q := range asks {
				if a, e := p.Ask(1, q); e != api.OK || len(a) != 1 || a[0].Answer.Kind != api.AOK {
					t.Fatalf("%v is asked %v: %v, %d", x.Me, q, a, e)
				}
			}
			if got := p.State(); fmt.Sprint(got) != fmt.Sprint(x) {
				t.Errorf("%v; not %v", x, got)
			}
		}
	}
}

// stand are the asks by which the one at a place of Records comes to have a record.
func stand(i int, r api.RecState, o api.Owner) []api.Ask {
	free := api.Ask{Kind: api.QFree, W: r.W, Owner: o}
	switch i {
	case 0:
		return []api.Ask{{Kind: api.QLock, W: r.W, Owner: o}, {Kind: api.QRight, W: r.W, Ref: r.Right, Owner: o}, free}
	case 1:
		return []api.Ask{{Kind: api.QLeft, W: r.W, Ref: r.Left}}
	}
	return []api.Ask{{Kind: api.QRec, W: r.W, Ref: r.Left, Ref2: r.Right, Owner: o}, free}
}

// said is what all calls tell of members, as a text.
func said(s sample) string {
	var b strings.Builder
	say := func(x ...any) { fmt.Fprintln(&b, x...) }
	say(Check(s.height, s.l...))
	lists, e := Lists(s.height, s.l...)
	say(lists, e)
	states, e := Records(s.height, s.l...)
	say(states, e)
	for _, w := range s.vectors() {
		l, e := Members(s.height, w, s.l...)
		say(l, e)
		left, right, e := Beside(s.height, w, 3, s.l...)
		say(left, right, e)
	}
	for _, k := range []api.Key{lowest, at(0), at(4), at(5), at(50), highest} {
		for _, id := range []int{0, 1, 2, 3} {
			way, left, right, e := Way(s.height, id, k, s.l...)
			say(way, left, right, e)
		}
	}
	return b.String()
}

// P11.1 to P11.4: the order in which members are handed in tells nothing; and they stay as they were.
func TestAnyOrder(t *testing.T) {
	d := draw(3)
	for _, s := range samples() {
		s.l = s.l[:min(len(s.l), 9)]
		mixed := sample{s.height, slices.Clone(s.l)}
		// The lists that are asked for must come in one order, too.
		vectors := fmt.Sprint(s.vectors())
		want := said(s)
		for range 5 {
			for i := range mixed.l {
				j := d.below(len(mixed.l))
				mixed.l[i], mixed.l[j] = mixed.l[j], mixed.l[i]
			}
			was := slices.Clone(mixed.l)
			lists, e := Lists(s.height, mixed.l...)
			states, f := Records(s.height, mixed.l...)
			got := fmt.Sprintln(lists, e) + fmt.Sprintln(states, f)
			if !strings.Contains(want, got) {
				t.Errorf("of height %d, %v: %s; not in %s", s.height, mixed.l, got, want)
			}
			for _, w := range s.vectors() {
				x, _ := Members(s.height, w, s.l...)
				y, _ := Members(s.height, w, mixed.l...)
				a, b, _ := Beside(s.height, w, 3, s.l...)
				c, d, _ := Beside(s.height, w, 3, mixed.l...)
				if !slices.Equal(x, y) || a != c || b != d {
					t.Errorf("of height %d, %v: %q: %v, %v, %v; not %v, %v, %v", s.height, mixed.l, bits(w), y, c, d, x, a, b)
				}
			}
			for _, k := range s.targets() {
				x, a, b, _ := Way(s.height, 2, k, s.l...)
				y, c, d, _ := Way(s.height, 2, k, mixed.l...)
				if !slices.Equal(x, y) || a != c || b != d {
					t.Errorf("of height %d, %v: to %v: %v, %v, %v; not %v, %v, %v", s.height, mixed.l, k, y, c, d, x, a, b)
				}
			}
			if !slices.Equal(was, mixed.l) {
				t.Errorf("%v were changed: %v", was, mixed.l)
			}
		}
		if vectors != fmt.Sprint(s.vectors()) || want != said(s) {
			t.Errorf("of height %d, %v: another answer the second time", s.height, s.l)
		}
	}
}

// DOC.md rule 4: who writes over an answer, behind its end too, changes neither the members nor another answer, nor does it share with its own parts.
func TestApart(t *testing.T) {
	bad := ref(999, 999, "")
	for _, s := range samples() {
		was := slices.Clone(s.l)
		want := said(s)
		spoil := func(l []api.Ref) {
			for i := range l[:cap(l)] {
				l[:cap(l)][i] = bad
			}
		}
		for _, w := range s.vectors() {
			l, _ := Members(s.height, w, s.l...)
			spoil(l)
		}
		lists, _ := Lists(s.height, s.l...)
		for i := range lists {
			rest := fmt.Sprint(lists[i+1:])
			spoil(lists[i].Members)
			if rest != fmt.Sprint(lists[i+1:]) {
				t.Errorf("lists of %v share memory", s.l)
			}
		}
		states, _ := Records(s.height, s.l...)
		for i := range states {
			rest := fmt.Sprint(states[i+1:])
			recs := states[i].Recs[:cap(states[i].Recs)]
			for j := range recs {
				recs[j] = api.RecState{Left: bad, Right: bad}
			}
			if rest != fmt.Sprint(states[i+1:]) {
				t.Errorf("records of %v share memory", s.l)
			}
		}
		for _, from := range s.row(v("")) {
			way, _, _, _ := Way(s.height, from.ID, at(4), s.l...)
			for i := range way[:cap(way)] {
				way[:cap(way)][i] = api.Hop{At: bad}
			}
		}
		if !slices.Equal(was, s.l) || want != said(s) {
			t.Errorf("%v are now %v, or tell otherwise", was, s.l)
		}
	}
}

// DOC.md rule 4: members that are changed behind a call do not change its answer.
func TestNotKept(t *testing.T) {
	for _, s := range samples() {
		l := slices.Clone(s.l)
		members, _ := Members(s.height, v(""), l...)
		lists, _ := Lists(s.height, l...)
		states, _ := Records(s.height, l...)
		way, _, _, _ := Way(s.height, 1, at(0), l...)
		was := fmt.Sprint(members, lists, states, way)
		for i := range l {
			l[i] = api.Ref{}
		}
		if got := fmt.Sprint(members, lists, states, way); got != was {
			t.Errorf("%s is now %s", was, got)
		}
	}
}
