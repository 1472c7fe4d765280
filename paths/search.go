package paths

import (
	"slices"

	"trellis/api"
)

// find: a node to which a way was found, by an arc from a node that is settled.
type find struct {
	node, sum int64
	edge      int64 // the arc's
	by        int   // the place of the settled node's find; none for the first node
}

// search: a search from a node.
type search struct {
	arcs    func(id int64) ([]api.Arc, api.Errno)
	weight  func(a api.Arc) int64
	finds   []find        // in the order in which they were found
	best    map[int64]int // by node: the place of its find with the least sum, the first one of these
	open    *Heap[int]    // the places of the finds whose node was not settled by them yet
	settled int
}

// weighed: the weight of an arc in a search by weights.
func weighed(a api.Arc) int64 { return a.Weight }

// counted: the weight of an arc in a search by hops.
func counted(api.Arc) int64 { return 1 }

// newSearch: a search that has settled nothing yet.
func newSearch(arcs func(id int64) ([]api.Arc, api.Errno), weight func(a api.Arc) int64, from int64) *search {
	s := &search{arcs: arcs, weight: weight, best: map[int64]int{}}
	s.open = NewHeap(func(a, b int) bool {
		x, y := s.finds[a], s.finds[b]
		return x.sum < y.sum || x.sum == y.sum && x.node < y.node
	})
	s.add(find{node: from, by: -1})
	return s
}

// add: one more find, if it is better than what was found of its node so far.
func (s *search) add(f find) {
	// No weight is below 0: a node that is settled is found with no lesser sum any more.
	if at, ok := s.best[f.node]; ok && s.finds[at].sum <= f.sum {
		return
	}
	at := len(s.finds)
	s.best[f.node] = at
	s.finds = append(s.finds, f)
	s.open.Push(at)
}

// settle: the next node is settled: the place of its find; false: there is none.
func (s *search) settle() (int, bool, api.Errno) {
	for {
		at, ok := s.open.Pop()
		if !ok {
			return 0, false, api.OK
		}
		if s.best[s.finds[at].node] != at { // a better one was found since
			continue
		}
		if s.settled == api.MaxLook {
			return 0, false, api.ErrSteps
		}
		s.settled++
		return at, true, api.OK
	}
}

// look: the arcs of the settled node with that find are asked for, and followed.
func (s *search) look(at int) api.Errno {
	node, sum := s.finds[at].node, s.finds[at].sum
	list, code := s.arcs(node)
	if code != api.OK {
		return code
	}
	for _, a := range list {
		w := s.weight(a)
		if w < 0 {
			return api.ErrWeight
		}
		if w > api.MaxFar-sum {
			return api.ErrFar
		}
		s.add(find{node: a.To, sum: sum + w, edge: a.Edge, by: at})
	}
	return api.OK
}

// until: the search goes on until that node is settled: the place of its find; false: it is over without.
func (s *search) until(to int64) (int, bool, api.Errno) {
	for {
		at, ok, code := s.settle()
		if !ok || s.finds[at].node == to {
			return at, ok, code
		}
		if code := s.look(at); code != api.OK {
			return 0, false, code
		}
	}
}

// within: the nodes that are settled, in that order, where those with the sum most are not asked for their arcs.
func (s *search) within(most int64) ([]int64, api.Errno) {
	var nodes []int64
	for {
		at, ok, code := s.settle()
		if code != api.OK {
			return nil, code
		}
		if !ok {
			return nodes, api.OK
		}
		nodes = append(nodes, s.finds[at].node)
		if s.finds[at].sum == most {
			continue
		}
		if code := s.look(at); code != api.OK {
			return nil, code
		}
	}
}

// way: the way to the settled node with that find.
func (s *search) way(at int) api.Way {
	w := api.Way{Sum: s.finds[at].sum}
	for s.finds[at].by >= 0 {
		w.Nodes = append(w.Nodes, s.finds[at].node)
		w.Edges = append(w.Edges, s.finds[at].edge)
		at = s.finds[at].by
	}
	w.Nodes = append(w.Nodes, s.finds[at].node)
	slices.Reverse(w.Nodes)
	slices.Reverse(w.Edges)
	return w
}
