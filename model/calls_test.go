package model

import (
	"maps"
	"slices"
	"testing"

	"leapfrog/api"
)

// plain is a Go map, which does calls in the most simple way: it goes through all its keys.
type plain map[uint64]string

// items are the plain map's, rising.
func (p plain) items(low, high uint64) []api.Item {
	var l []api.Item
	for _, k := range slices.Sorted(maps.Keys(p)) {
		if k >= low && k <= high {
			l = append(l, item(k, p[k]))
		}
	}
	return l
}

func (p plain) do(c api.Call) api.Result {
	_, there := p[c.Key]
	switch {
	case c.Kind == api.CInsert && there:
		return fails(100)
	case c.Kind == api.CInsert:
		p[c.Key] = string(c.Value)
		return api.Result{}
	case c.Kind == api.CDelete && there:
		delete(p, c.Key)
		return api.Result{}
	case c.Kind == api.CGet && there:
		return finds(item(c.Key, p[c.Key]))
	case c.Kind == api.CCeil && len(p.items(c.Key, top)) > 0:
		return finds(p.items(c.Key, top)[0])
	case c.Kind == api.CRange:
		if l := p.items(c.Key, c.High); len(l) <= 64 {
			return lists(l...)
		}
		return fails(102)
	}
	return fails(101)
}

// drawn is a call that three bytes make; the keys lie near 0 and near the greatest one. Of kind 0 it may not be.
func drawn(b []byte) api.Call {
	at := func(x byte) uint64 { return uint64(int64(int8(x))) }
	c := api.Call{Kind: api.CallKind(b[0] % 6), Key: at(b[1])}
	if c.Kind == api.CInsert {
		c.Value = b[2 : 2+b[2]%2]
	}
	if c.Kind == api.CRange {
		c.High = at(b[2])
	}
	return c
}

// step does one call on both, and holds them against each other.
func step(t *testing.T, l []api.Item, p plain, c api.Call) []api.Item {
	t.Helper()
	m, r, e := Do(l, c)
	if c.Kind == 0 {
		if len(m) != 0 || said(r) != said(api.Result{}) || e != 104 {
			t.Fatalf("Do(%v) = %s, %s, %d", c, text(m), said(r), e)
		}
		return l
	}
	told := p.do(c)
	if e != 0 || said(r) != said(told) || text(m) != text(p.items(0, top)) || Check(m) != 0 || !Tells(l, c, told) {
		t.Fatalf("Do(%s, %v) = %s, %s, %d; not %s", text(l), c, text(m), said(r), e, said(told))
	}
	v, is := Key(m, c.Key)
	if want, there := p[c.Key]; is != there || string(v) != want {
		t.Fatalf("Key(%s, %d) = %x, %v", text(m), c.Key, v, is)
	}
	return m
}

// play does the calls that bytes make, one by one and all at once.
func play(t *testing.T, b []byte) {
	t.Helper()
	p, l := plain{}, []api.Item(nil)
	var cs []api.Call
	for row := range slices.Chunk(b, 3) {
		if len(row) == 3 {
			c := drawn(row)
			l = step(t, l, p, c)
			cs = append(cs, c)
		}
	}
	together(t, cs)
}

// together holds Run against Do, up to the first call that may not be.
func together(t *testing.T, cs []api.Call) {
	t.Helper()
	p, want := plain{}, api.OK
	var told []api.Result
	for _, c := range cs {
		if c.Kind == 0 {
			want = 104
			break
		}
		told = append(told, p.do(c))
	}
	l, rs, e := Run(nil, cs...)
	if e != want || text(l) != text(p.items(0, top)) || len(rs) != len(told) {
		t.Fatalf("Run of %d calls = %s, %d told, %d; not %d, %d", len(cs), text(l), len(rs), e, len(told), want)
	}
	for i := range rs {
		if said(rs[i]) != said(told[i]) {
			t.Fatalf("call %d, %v, tells %s; not %s", i, cs[i], said(rs[i]), said(told[i]))
		}
	}
}

// row are bytes by which many calls are drawn; unless none is asked for, no call is of kind 0, which is none.
func row(length int, seed uint32, none bool) []byte {
	b := make([]byte, length)
	for i := range b {
		seed = seed*1664525 + 1013904223
		b[i] = byte(seed >> 24)
		if i%3 == 0 && !none {
			b[i] = 1 + b[i]%5
		}
	}
	return b
}

// P10.2 to P10.6: calls in many orders tell what a plain Go map tells, and make what it is then.
func TestCalls(t *testing.T) {
	for seed := range uint32(20) {
		play(t, row(2400, seed, false))
		play(t, row(300, seed, true))
	}
}

// P10.2: the same of a map that grows: most calls are inserts, so that ranges are large.
func TestGrowing(t *testing.T) {
	for seed := range uint32(5) {
		b := row(3000, seed, false)
		for i := 0; i < len(b); i += 6 {
			b[i] = 1
		}
		play(t, b)
	}
}

func FuzzCalls(f *testing.F) {
	f.Add([]byte{1, 5, 0, 1, 9, 1, 5, 0, 9, 2, 5, 0, 4, 6, 0, 3, 9, 0, 0, 0, 0})
	f.Add(row(600, 1, false))
	f.Add(row(600, 2, true))
	f.Fuzz(func(t *testing.T, b []byte) {
		play(t, b[:min(len(b), 600)])
	})
}
