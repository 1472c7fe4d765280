package space

import (
	"cmp"
	"slices"

	"trellis/api"
	"trellis/value"
)

// formFault: what is wrong with a write set, whatever the graph is.
func formFault(x api.Delta) api.Errno {
	made := slices.Concat(mapped(x.NewNodes, ofNode), mapped(x.NewEdges, ofEdge))
	sets := slices.Concat(x.SetNodes, x.SetEdges)
	switch {
	case !ordered(x) || !apart(x):
		return api.ErrDelta
	case !every(made, named) || !every(sets, func(s api.PropSet) bool { return value.Name(s.Key) }):
		return api.ErrName
	case !every(made, func(t thing) bool { return fit(t.props) }) || !every(sets, func(s api.PropSet) bool { return canSet(s.Val) }):
		return api.ErrProps
	}
	return api.OK
}

// named: are all names of what is made names?
func named(t thing) bool { return value.Name(t.name) && keysNamed(t.props) }

// rise: are the ids above last, each above the one before it?
func rise(last int64, ids []int64) bool {
	for _, id := range ids {
		if id <= last {
			return false
		}
		last = id
	}
	return true
}

// setsRise: are the ids 1 or more, and do they, and of one id the keys, rise?
func setsRise(sets []api.PropSet) bool {
	last := api.PropSet{}
	for _, s := range sets {
		if s.Id < 1 || s.Id < last.Id || s.Id == last.Id && s.Key <= last.Key {
			return false
		}
		last = s
	}
	return true
}

// ordered: do all lists stand in their order, with ids that they may have?
func ordered(x api.Delta) bool {
	// The complement of an id below 0 is 0 or more, and rises where the id falls.
	nodes := mapped(x.NewNodes, func(n api.Node) int64 { return ^n.Id })
	edges := mapped(x.NewEdges, func(e api.Edge) int64 { return ^e.Id })
	return rise(0, x.DelEdges) && rise(0, x.DelNodes) && rise(-1, nodes) && rise(-1, edges) && setsRise(x.SetNodes) && setsRise(x.SetEdges)
}

// stands: is the id in a list that rises?
func stands(ids []int64, id int64) bool {
	_, found := slices.BinarySearch(ids, id)
	return found
}

// placeOfNew: the place of a new node in its list, of a write set in order.
func placeOfNew(x api.Delta, id int64) (int, bool) {
	return slices.BinarySearchFunc(x.NewNodes, id, func(n api.Node, id int64) int { return cmp.Compare(id, n.Id) })
}

// apart: is nothing that goes an end of a new edge, or given a property? (Of a write set in order.)
func apart(x api.Delta) bool {
	isEnd := func(id int64) bool {
		if id > 0 {
			return !stands(x.DelNodes, id)
		}
		_, found := placeOfNew(x, id)
		return found
	}
	return every(ends(x), isEnd) &&
		every(x.SetNodes, func(s api.PropSet) bool { return !stands(x.DelNodes, s.Id) }) &&
		every(x.SetEdges, func(s api.PropSet) bool { return !stands(x.DelEdges, s.Id) })
}

// ends: From and To of each new edge.
func ends(x api.Delta) []int64 {
	var out []int64
	for _, e := range x.NewEdges {
		out = append(out, e.From, e.To)
	}
	return out
}
