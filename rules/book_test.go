package rules_test

import (
	"slices"

	"trellis/api"
	"trellis/value"
)

// A second reckoning, by the words of the chapter's table: each pair of nodes, each node and each edge is held against the rule; who can be come back to is found by laying ways together till there are no new ones.

func find(list []api.Prop, key string) (api.Val, bool) {
	at := slices.IndexFunc(list, func(p api.Prop) bool { return p.Key == key })
	if at < 0 {
		return api.Val{}, false
	}
	return list[at].Val, true
}

// bookRule: the rule that a node says.
func bookRule(n api.Node) (api.Rule, bool) {
	name := func(key string) (string, bool) {
		v, there := find(n.Props, key)
		return v.S, there && v.Kind == api.KStr && value.Name(v.S)
	}
	kind, _ := find(n.Props, "kind")
	of, sound := name("of")
	r := api.Rule{Id: n.Id, Of: of}
	want := 2
	if kind.Kind != api.KStr {
		return api.Rule{}, false
	}
	more := func(key string, into *string) {
		s, is := name(key)
		*into, sound = s, sound && is
		want++
	}
	switch kind.S {
	case "unique":
		r.Kind = 1
		more("key", &r.Key)
	case "needs":
		r.Kind = 2
		more("key", &r.Key)
	case "only":
		r.Kind = 3
		more("key", &r.Key)
		v, _ := find(n.Props, "type")
		r.Is = map[api.Val]int{str("bool"): 1, str("int"): 2, str("complex"): 3, str("string"): 4}[v]
		want++
		sound = sound && r.Is > 0
	case "link":
		r.Kind = 4
		more("from", &r.From)
		more("to", &r.To)
	case "most":
		r.Kind = 5
		v, there := find(n.Props, "n")
		r.N = v.A
		want++
		sound = sound && there && v.Kind == api.KInt && v.A >= 0
	case "order":
		r.Kind = 6
	default:
		sound = false
	}
	if !sound || len(n.Props) != want {
		return api.Rule{}, false
	}
	return r, true
}

// bookBreakers: all nodes, or all edges, that break a rule, rising.
func bookBreakers(g api.Graph, r api.Rule) (nodes, edges []int64) {
	for _, n := range g.Nodes {
		if nodeBreaks(g, r, n) {
			nodes = append(nodes, n.Id)
		}
	}
	label := func(id int64) string {
		return g.Nodes[slices.IndexFunc(g.Nodes, func(n api.Node) bool { return n.Id == id })].Label
	}
	for _, e := range g.Edges {
		if r.Kind == 4 && e.Type == r.Of && !(label(e.From) == r.From && label(e.To) == r.To) {
			edges = append(edges, e.Id)
		}
	}
	return nodes, edges
}

func nodeBreaks(g api.Graph, r api.Rule, n api.Node) bool {
	v, has := find(n.Props, r.Key)
	switch r.Kind {
	case 1:
		for _, m := range g.Nodes {
			if w, too := find(m.Props, r.Key); has && too && v == w && m.Id < n.Id && m.Label == r.Of && n.Label == r.Of {
				return true
			}
		}
	case 2:
		return n.Label == r.Of && !has
	case 3:
		return n.Label == r.Of && has && v.Kind != r.Is
	case 5:
		many := int64(0)
		for _, e := range g.Edges {
			if e.Type == r.Of && e.From == n.Id {
				many++
			}
		}
		return many > r.N
	case 6:
		return bookWays(g, r.Of)[[2]int64{n.Id, n.Id}]
	}
	return false
}

// bookWays: from where one comes to where, along one or more edges of that type.
func bookWays(g api.Graph, of string) map[[2]int64]bool {
	ways := map[[2]int64]bool{}
	for _, e := range g.Edges {
		if e.Type == of {
			ways[[2]int64{e.From, e.To}] = true
		}
	}
	for _, k := range g.Nodes {
		for _, i := range g.Nodes {
			for _, j := range g.Nodes {
				if ways[[2]int64{i.Id, k.Id}] && ways[[2]int64{k.Id, j.Id}] {
					ways[[2]int64{i.Id, j.Id}] = true
				}
			}
		}
	}
	return ways
}

// bookBroken: what Broken must answer for a rule that stands.
func bookBroken(g api.Graph, r api.Rule) (api.Breach, bool) {
	nodes, edges := bookBreakers(g, r)
	switch {
	case len(nodes) > 0:
		return api.Breach{Rule: r.Id, Node: nodes[0]}, true
	case len(edges) > 0:
		return api.Breach{Rule: r.Id, Edge: edges[0]}, true
	}
	return api.Breach{}, false
}

// bookCheck: what Check, and bookRead's list: what Read must answer.
func bookCheck(g api.Graph) (list []api.Rule, by api.Breach, code api.Errno) {
	for _, n := range g.Nodes {
		if n.Label != "rule" {
			continue
		}
		r, says := bookRule(n)
		if !says {
			return nil, api.Breach{Node: n.Id}, api.ErrNoRule
		}
		list = append(list, r)
	}
	for _, r := range list {
		if by, is := bookBroken(g, r); is {
			return list, by, api.ErrRule
		}
	}
	return list, api.Breach{}, api.OK
}
