package graph

import (
	"leapfrog/api"
	"leapfrog/key"
	"leapfrog/vec"
)

// search is one on its way.
type search struct {
	graph
	target api.Key
	way    []api.Hop
}

// at is the one on which it stands.
func (s *search) at() api.Ref {
	return s.way[len(s.way)-1].At
}

// stand lets it stand on one, at a level.
func (s *search) stand(level int, r api.Ref) {
	s.way = append(s.way, api.Hop{Level: level, At: r})
}

// here is its list at a level, and where in it the one stands on which it does.
func (s *search) here(level int) ([]api.Ref, int) {
	// Vectors, the ends' too, have as many bits as the height, so that they have so many first ones.
	w, _ := vec.Prefix(s.at().Vec, level)
	row := s.row(w)
	return row, place(row, s.at().ID)
}

// left takes it, at one level, as far as those to the left are not below the target; at level 0 onto the first that is. As the head is below any target but RLow, there always is one.
func (s *search) left(level int) {
	row, i := s.here(level)
	for ; !key.Less(row[i-1].Key, s.target); i-- {
		s.stand(level, row[i-1])
	}
	if level == 0 {
		s.stand(level, row[i-1])
	}
}

// right takes it, at one level, as far as those to the right are below the target. As the tail is below none, it stops ahead of that.
func (s *search) right(level int) {
	row, i := s.here(level)
	for ; key.Less(row[i+1].Key, s.target); i++ {
		s.stand(level, row[i+1])
	}
}

// run takes it down all levels: the two between which it ends.
func (s *search) run() (api.Ref, api.Ref) {
	// Nobody is below RLow: to the left there would be no end.
	if s.target.Rank == api.RLow {
		return api.Ref{}, s.head
	}
	onward := s.right
	if !key.Less(s.at().Key, s.target) {
		onward = s.left
	}
	for level := s.height; level >= 0; level-- {
		onward(level)
	}
	row, i := s.here(0)
	return row[i], row[i+1]
}

// Way is the way of a search, and the two between which it ends.
func Way(height, from int, target api.Key, l ...api.Ref) ([]api.Hop, api.Ref, api.Ref, api.Errno) {
	g, e := build(height, l)
	if e != api.OK {
		return nil, api.Ref{}, api.Ref{}, e
	}
	all := g.ended(g.members)
	i := place(all, from)
	if i < 0 {
		return nil, api.Ref{}, api.Ref{}, api.ErrMember
	}
	if key.Check(target) != api.OK {
		return nil, api.Ref{}, api.Ref{}, api.ErrArg
	}
	s := &search{graph: g, target: target}
	s.stand(height, all[i])
	left, right := s.run()
	return s.way, left, right, api.OK
}
