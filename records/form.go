package records

import (
	"cmp"
	"slices"
	"strings"

	"trellis/api"
	"trellis/value"
)

// empty: does the write set ask for nothing?
func empty(x api.Delta) bool {
	return len(x.DelEdges)+len(x.DelNodes)+len(x.NewNodes)+len(x.NewEdges)+len(x.SetNodes)+len(x.SetEdges) == 0
}

// formFault: what is wrong with a write set, whatever the graph is.
func formFault(x api.Delta) api.Errno {
	switch {
	case !ordered(x) || !apart(x):
		return api.ErrDelta
	case !named(x):
		return api.ErrName
	case !filled(x):
		return api.ErrProps
	}
	return api.OK
}

// rising: does each stand above the one before it?
func rising[T any](list []T, compare func(a, b T) int) bool {
	for i := range list {
		if i > 0 && compare(list[i-1], list[i]) >= 0 {
			return false
		}
	}
	return true
}

func byNodeDown(a, b api.Node) int { return cmp.Compare(b.Id, a.Id) }
func byEdgeDown(a, b api.Edge) int { return cmp.Compare(b.Id, a.Id) }
func byKey(a, b api.Prop) int      { return strings.Compare(a.Key, b.Key) }

func bySet(a, b api.PropSet) int {
	return cmp.Or(cmp.Compare(a.Id, b.Id), strings.Compare(a.Key, b.Key))
}

// ordered: do all lists stand in their order, with ids that they may have? (The first of a list in its order tells of all ids.)
func ordered(x api.Delta) bool {
	switch {
	case len(x.DelEdges) > 0 && x.DelEdges[0] < 1,
		len(x.DelNodes) > 0 && x.DelNodes[0] < 1,
		len(x.NewNodes) > 0 && x.NewNodes[0].Id >= 0,
		len(x.NewEdges) > 0 && x.NewEdges[0].Id >= 0,
		len(x.SetNodes) > 0 && x.SetNodes[0].Id < 1,
		len(x.SetEdges) > 0 && x.SetEdges[0].Id < 1:
		return false
	}
	return rising(x.DelEdges, cmp.Compare[int64]) && rising(x.DelNodes, cmp.Compare[int64]) &&
		rising(x.NewNodes, byNodeDown) && rising(x.NewEdges, byEdgeDown) &&
		rising(x.SetNodes, bySet) && rising(x.SetEdges, bySet)
}

// stands: is the id in a list that rises?
func stands(list []int64, id int64) bool {
	_, found := slices.BinarySearch(list, id)
	return found
}

// placeOfNew: the place of a new node in its list.
func placeOfNew(x api.Delta, id int64) (int, bool) {
	return slices.BinarySearchFunc(x.NewNodes, api.Node{Id: id}, byNodeDown)
}

// apart: do the lists of a write set in order fit each other? What goes is neither an end of a new edge nor given a property.
func apart(x api.Delta) bool {
	for _, e := range x.NewEdges {
		if !isEnd(x, e.From) || !isEnd(x, e.To) {
			return false
		}
	}
	gone := func(ids []int64) func(api.PropSet) bool {
		return func(s api.PropSet) bool { return stands(ids, s.Id) }
	}
	return !slices.ContainsFunc(x.SetNodes, gone(x.DelNodes)) && !slices.ContainsFunc(x.SetEdges, gone(x.DelEdges))
}

// isEnd: may a new edge of the write set have that end?
func isEnd(x api.Delta, id int64) bool {
	if id > 0 {
		return !stands(x.DelNodes, id)
	}
	_, found := placeOfNew(x, id)
	return found
}

// named: are all names of the write set names?
func named(x api.Delta) bool {
	for _, n := range x.NewNodes {
		if !value.Name(n.Label) || !keysNamed(n.Props) {
			return false
		}
	}
	for _, e := range x.NewEdges {
		if !value.Name(e.Type) || !keysNamed(e.Props) {
			return false
		}
	}
	unnamed := func(s api.PropSet) bool { return !value.Name(s.Key) }
	return !slices.ContainsFunc(x.SetNodes, unnamed) && !slices.ContainsFunc(x.SetEdges, unnamed)
}

func keysNamed(list []api.Prop) bool {
	return !slices.ContainsFunc(list, func(p api.Prop) bool { return !value.Name(p.Key) })
}

// filled: are all properties of the write set such as a node or an edge can have?
func filled(x api.Delta) bool {
	for _, n := range x.NewNodes {
		if !fit(n.Props) {
			return false
		}
	}
	for _, e := range x.NewEdges {
		if !fit(e.Props) {
			return false
		}
	}
	unfit := func(s api.PropSet) bool { return !goes(s) && !value.Storable(s.Val) }
	return !slices.ContainsFunc(x.SetNodes, unfit) && !slices.ContainsFunc(x.SetEdges, unfit)
}

// fit: can a new node or edge have these properties?
func fit(list []api.Prop) bool {
	unstored := func(p api.Prop) bool { return !value.Storable(p.Val) }
	return len(list) <= api.MaxProps && rising(list, byKey) && !slices.ContainsFunc(list, unstored)
}

// goes: is the property taken away?
func goes(s api.PropSet) bool { return s.Val == api.Val{} }
