package model

import (
	"bytes"
	"slices"
	"sort"

	"leapfrog/api"
)

// Do: a call is done.
func Do(l []api.Item, c api.Call) ([]api.Item, api.Result, api.Errno) {
	if e := may(l, c); e != api.OK {
		return nil, api.Result{}, e
	}
	r := told(l, c)
	return write(copied(l), c, r.E), r, api.OK
}

// Run: calls are done, one behind the other. The map is looked at and copied once: what a call makes of a map is one again.
func Run(l []api.Item, cs ...api.Call) ([]api.Item, []api.Result, api.Errno) {
	if e := Check(l); e != api.OK {
		return nil, nil, e
	}
	l = copied(l)
	var rs []api.Result
	for _, c := range cs {
		if e := Call(c); e != api.OK {
			return l, rs, e
		}
		r := told(l, c)
		l = write(l, c, r.E)
		rs = append(rs, r)
	}
	return l, rs, api.OK
}

// Tells: would a call tell a result?
func Tells(l []api.Item, c api.Call, r api.Result) bool {
	return may(l, c) == api.OK && SameResult(told(l, c), r)
}

// may: can that call be done on those items?
func may(l []api.Item, c api.Call) api.Errno {
	if e := Check(l); e != api.OK {
		return e
	}
	return Call(c)
}

// told is what a call tells, in memory of its own. Whoever asks for a key that is there is told what one is told who asks for the least at or above it.
func told(l []api.Item, c api.Call) api.Result {
	i := place(l, c.Key)
	there := i < len(l) && l[i].Key == c.Key
	switch c.Kind {
	case api.CInsert:
		if there {
			return api.Result{E: api.ErrExists}
		}
	case api.CDelete:
		if !there {
			return api.Result{E: api.ErrAbsent}
		}
	case api.CGet:
		if !there {
			return api.Result{E: api.ErrAbsent}
		}
		fallthrough
	case api.CCeil:
		if i == len(l) {
			return api.Result{E: api.ErrAbsent}
		}
		return api.Result{Key: l[i].Key, Value: bytes.Clone(l[i].Value), Found: true}
	case api.CRange:
		return ranged(l[i:], c.High)
	}
	return api.Result{}
}

// ranged is what a range tells of the items that are not below its Key.
func ranged(l []api.Item, high uint64) api.Result {
	n := sort.Search(len(l), func(i int) bool { return l[i].Key > high })
	if n > api.MaxRange {
		return api.Result{E: api.ErrLarge}
	}
	return api.Result{Items: copied(l[:n:n])}
}

// place is where the least key at or above k stands, or would.
func place(l []api.Item, k uint64) int {
	return sort.Search(len(l), func(i int) bool { return l[i].Key >= k })
}

// write does a call on a map that is nobody else's, if it told OK: it moves the items in their own memory.
func write(l []api.Item, c api.Call, e api.Errno) []api.Item {
	if e != api.OK {
		return l
	}
	i := place(l, c.Key)
	switch c.Kind {
	case api.CInsert:
		return slices.Insert(l, i, api.Item{Key: c.Key, Value: bytes.Clone(c.Value)})
	case api.CDelete:
		return slices.Delete(l, i, i+1)
	}
	return l
}

// copied is items that share no memory with those.
func copied(l []api.Item) []api.Item {
	m := make([]api.Item, 0, len(l))
	for _, it := range l {
		m = append(m, api.Item{Key: it.Key, Value: bytes.Clone(it.Value)})
	}
	return m
}
