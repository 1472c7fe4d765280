package rules

import (
	"cmp"
	"slices"

	"trellis/api"
)

// broken: what breaks a rule that stands, in a graph: the first by its id.
func broken(g api.Graph, r api.Rule) (api.Breach, bool) {
	if r.Kind == api.RuLink {
		e, found := first(g.Edges, strays(g, r))
		return breach(api.Breach{Rule: r.Id, Edge: e.Id}, found)
	}
	n, found := first(g.Nodes, breaks(g, r))
	return breach(api.Breach{Rule: r.Id, Node: n.Id}, found)
}

// breach: zero where nothing was found.
func breach(by api.Breach, found bool) (api.Breach, bool) {
	if !found {
		return api.Breach{}, false
	}
	return by, true
}

// first: the first of the list that breaks something.
func first[T any](list []T, breaks func(T) bool) (T, bool) {
	for _, x := range list {
		if breaks(x) {
			return x, true
		}
	}
	var none T
	return none, false
}

// breaks: tells of a node whether it breaks the rule; the nodes are to be asked for in their order.
func breaks(g api.Graph, r api.Rule) func(api.Node) bool {
	switch r.Kind {
	case api.RuUnique:
		return among(r.Of, repeats(r.Key))
	case api.RuNeeds:
		return among(r.Of, func(n api.Node) bool {
			_, has := valueOf(n, r.Key)
			return !has
		})
	case api.RuOnly:
		return among(r.Of, func(n api.Node) bool {
			v, has := valueOf(n, r.Key)
			return has && v.Kind != r.Is
		})
	case api.RuMost:
		leaving := leavingOf(g.Edges, r.Of)
		return func(n api.Node) bool { return leaving[n.Id] > r.N }
	}
	ringed := ringedBy(g.Edges, r.Of)
	return func(n api.Node) bool {
		_, is := ringed[n.Id]
		return is
	}
}

// among: is it so for a node of that label?
func among(label string, is func(api.Node) bool) func(api.Node) bool {
	return func(n api.Node) bool { return n.Label == label && is(n) }
}

// repeats: has a node a value of the property that one that was asked for ahead of it has?
func repeats(key string) func(api.Node) bool {
	met := map[api.Val]struct{}{}
	return func(n api.Node) bool {
		v, has := valueOf(n, key)
		if !has {
			return false
		}
		_, again := met[v]
		met[v] = struct{}{}
		return again
	}
}

// valueOf: the value of a property, if the node has it.
func valueOf(n api.Node, key string) (api.Val, bool) {
	p, has := first(n.Props, func(p api.Prop) bool { return p.Key == key })
	return p.Val, has
}

// strays: tells of an edge whether it is of the rule's type and has an end elsewhere.
func strays(g api.Graph, r api.Rule) func(api.Edge) bool {
	label := func(id int64) string {
		at, _ := slices.BinarySearchFunc(g.Nodes, id, func(n api.Node, id int64) int { return cmp.Compare(n.Id, id) })
		return g.Nodes[at].Label
	}
	return func(e api.Edge) bool {
		return e.Type == r.Of && (label(e.From) != r.From || label(e.To) != r.To)
	}
}

// leavingOf: how many edges of the type leave each node.
func leavingOf(edges []api.Edge, of string) map[int64]int64 {
	out := map[int64]int64{}
	for _, e := range edges {
		if e.Type == of {
			out[e.From]++
		}
	}
	return out
}
