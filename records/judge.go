package records

import (
	"slices"

	"trellis/api"
	"trellis/index"
)

// judge: gives up with the first error of a write set of the right form against the graph.
func (g sight) judge(x api.Delta, z api.Sizes) {
	g.judgeIds(x)
	if !g.counted().behind(x, g).fits(z) {
		check(api.ErrFull)
	}
}

// judgeIds: is all there that the write set speaks of, and does no edge lose a node?
func (g sight) judgeIds(x api.Delta) {
	for _, id := range x.DelEdges {
		g.edge(edgeId(id))
	}
	for _, id := range x.DelNodes {
		g.judgeLoose(nodeId(id), x.DelEdges)
	}
	for _, e := range x.NewEdges {
		g.judgeEnd(e.From)
		g.judgeEnd(e.To)
	}
	for _, s := range x.SetNodes {
		g.node(nodeId(s.Id))
	}
	for _, s := range x.SetEdges {
		g.edge(edgeId(s.Id))
	}
}

// judgeLoose: has the node no edge but those that go?
func (g sight) judgeLoose(id nodeId, going []int64) {
	for s := range sides {
		g.eachEdge(id, s, func(e edgeId, _ edge) {
			if !stands(going, int64(e)) {
				check(api.ErrHasEdges)
			}
		})
	}
}

// judgeEnd: is an end of a new edge, if it is no new node, there?
func (g sight) judgeEnd(id int64) {
	if id > 0 {
		g.node(nodeId(id))
	}
}

// tally: how much a store has, or would have: its properties apart by what has them.
type tally struct {
	nodes, edges, ofNodes, ofEdges int
}

// counted: what the graph has now. The index has a key for each property of a node.
func (g sight) counted() tally {
	keys := must(index.Count(g))
	return tally{
		nodes:   len(must(g.Used(api.SNode))),
		edges:   len(must(g.Used(api.SEdge))),
		ofNodes: keys,
		ofEdges: len(must(g.Used(api.SProp))) - keys,
	}
}

// behind: what there would be behind the write set.
func (t tally) behind(x api.Delta, g sight) tally {
	t.nodes += len(x.NewNodes) - len(x.DelNodes)
	t.edges += len(x.NewEdges) - len(x.DelEdges)
	for _, n := range x.NewNodes {
		t.ofNodes += len(n.Props)
	}
	for _, e := range x.NewEdges {
		t.ofEdges += len(e.Props)
	}
	t.ofNodes += gain(x.DelNodes, x.SetNodes, func(id int64) []api.Prop { return g.wholeNode(id).Props })
	t.ofEdges += gain(x.DelEdges, x.SetEdges, func(id int64) []api.Prop { return g.wholeEdge(id).Props })
	return t
}

// fits: does a store of these sizes hold it?
func (t tally) fits(z api.Sizes) bool {
	nodes, edges, props, keys := Caps(z)
	return t.nodes <= nodes && t.edges <= edges && t.ofNodes+t.ofEdges <= props && t.ofNodes <= keys
}

// gain: how many properties there would be more where these nodes or edges go, and those get other properties.
func gain(gone []int64, sets []api.PropSet, has func(id int64) []api.Prop) int {
	n := 0
	for _, id := range gone {
		n -= len(has(id))
	}
	return n + gainOfSets(sets, has)
}

// gainOfSets: how many there would be more behind these sets; it gives up where one node or edge would have too many.
func gainOfSets(sets []api.PropSet, has func(id int64) []api.Prop) int {
	n := 0
	for len(sets) > 0 {
		id := sets[0].Id
		own := slices.IndexFunc(sets, func(s api.PropSet) bool { return s.Id != id })
		if own < 0 {
			own = len(sets)
		}
		props := has(id)
		more := gainOver(props, sets[:own])
		if len(props)+more > api.MaxProps {
			check(api.ErrProps)
		}
		n += more
		sets = sets[own:]
	}
	return n
}

// gainOver: how many more there would be of what one node or edge has.
func gainOver(has []api.Prop, sets []api.PropSet) int {
	n := 0
	for _, s := range sets {
		there := slices.ContainsFunc(has, func(p api.Prop) bool { return p.Key == s.Key })
		switch {
		case there && goes(s):
			n--
		case !there && !goes(s):
			n++
		}
	}
	return n
}
