package graph

import (
	"slices"

	"leapfrog/api"
)

// Records are the records that all peers have when all is quiet, the ends' too.
func Records(height int, l ...api.Ref) ([]api.PeerState, api.Errno) {
	g, e := build(height, l)
	if e != api.OK {
		return nil, e
	}
	recs := g.records()
	var all []api.PeerState
	for _, r := range g.byIDs() {
		all = append(all, api.PeerState{Me: r, Joined: true, Recs: recs[r.ID]})
	}
	return all, api.OK
}

// records are those of all lists that have members, by the IDs of whose they are. In a list without members the ends stand as they do in a graph without any.
func (g graph) records() map[int][]api.RecState {
	recs := map[int][]api.RecState{}
	// The lists come in their order, so that each one's records do.
	for _, list := range g.lists() {
		row := g.ended(list.Members)
		for i, r := range row {
			left, right := beside(row, i)
			recs[r.ID] = append(recs[r.ID], api.RecState{W: list.W, Left: left, Right: right})
		}
	}
	return recs
}

// byIDs are the ends and all members; the ends' IDs are the least.
func (g graph) byIDs() []api.Ref {
	all := g.ended(g.members)
	slices.SortFunc(all, func(a, b api.Ref) int { return a.ID - b.ID })
	return all
}
