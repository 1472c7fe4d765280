package space

import (
	"slices"

	"trellis/api"
)

// thing: a node or an edge, without its id. name: its label, or its type; a node has no ends.
type thing struct {
	name     string
	from, to int64
	props    []api.Prop
}

func ofNode(n api.Node) thing {
	return thing{name: n.Label, props: slices.Clone(n.Props)}
}

func ofEdge(e api.Edge) thing {
	return thing{name: e.Type, from: e.From, to: e.To, props: slices.Clone(e.Props)}
}

func (t thing) node(id int64) api.Node {
	return api.Node{Id: id, Label: t.name, Props: slices.Clone(t.props)}
}

func (t thing) edge(id int64) api.Edge {
	return api.Edge{Id: id, Type: t.name, From: t.from, To: t.to, Props: slices.Clone(t.props)}
}

// has: has it the property, with just that value?
func (t thing) has(key string, v api.Val) bool {
	return slices.Contains(t.props, api.Prop{Key: key, Val: v})
}

// mapped: what each of the list becomes.
func mapped[T, U any](list []T, become func(T) U) []U {
	var out []U
	for _, x := range list {
		out = append(out, become(x))
	}
	return out
}

// every: is it so for all of the list?
func every[T any](list []T, is func(T) bool) bool {
	return !slices.ContainsFunc(list, func(x T) bool { return !is(x) })
}
