package rules_test

import (
	"math/rand"
	"slices"

	"trellis/api"
)

type draw struct {
	*rand.Rand
}

func newDraw(seed int64) draw { return draw{rand.New(rand.NewSource(seed))} }

func pick[T any](d draw, of ...T) T { return of[d.Intn(len(of))] }

func (d draw) one(in int) bool { return d.Intn(in) == 0 }

func (d draw) val() api.Val {
	return pick(d, num(0), num(1), num(2), num(3), cpx(1, 0), cpx(2, 1), str("a"), str("b"), str("c"), yes(), no())
}

// rule: what a node of the label rule has: mostly a rule, now and then one that is spoilt.
func (d draw) rule() []any {
	label, kind := pick(d, "a", "a", "b", "rule"), pick(d, "t", "u")
	key := pick(d, "j", "k")
	if label == "rule" {
		key = pick(d, "kind", "of", "key")
	}
	out := pick(d,
		[]any{"kind", "unique", "of", label, "key", key},
		[]any{"kind", "needs", "of", label, "key", key},
		[]any{"kind", "only", "of", label, "key", key, "type", pick(d, "bool", "int", "complex", "string", "string")},
		[]any{"kind", "link", "of", kind, "from", pick(d, "a", "b"), "to", pick(d, "a", "b")},
		[]any{"kind", "most", "of", kind, "n", d.Intn(4)},
		[]any{"kind", "order", "of", kind},
	)
	if !d.one(20) {
		return out
	}
	switch at := d.Intn(len(out)/2) * 2; d.Intn(3) {
	case 0:
		return append(append([]any(nil), out[:at]...), out[at+2:]...)
	case 1:
		return with(out, pick(d, "n", "key", "type", "from", "to", "x"), d.val())
	default:
		return with(out, out[at].(string), d.val())
	}
}

// graph: rising ids with gaps; calm: so that rules are mostly kept.
func (d draw) graph(calm bool) (g api.Graph) {
	id := int64(0)
	for range 1 + d.Intn(8) {
		id += pick(d, int64(1), 1, 2, 5)
		switch {
		case d.one(3):
			g.Nodes = append(g.Nodes, says(id, d.rule()...))
		default:
			n := api.Node{Id: id, Label: pick(d, "a", "b")}
			for _, key := range []string{"j", "k"} {
				if v := d.val(); calm {
					n.Props = append(n.Props, api.Prop{Key: key, Val: num(id)})
				} else if d.Intn(3) > 0 {
					n.Props = append(n.Props, api.Prop{Key: key, Val: v})
				}
			}
			g.Nodes = append(g.Nodes, n)
		}
	}
	id = 0
	for range d.Intn(7) {
		id += pick(d, int64(1), 1, 3)
		from, to := g.Nodes[d.Intn(len(g.Nodes))].Id, g.Nodes[d.Intn(len(g.Nodes))].Id
		if calm && from > to {
			from, to = to, from
		}
		g.Edges = append(g.Edges, ed(id, pick(d, "t", "t", "u", "v"), from, to))
	}
	return g
}

// less: the graph without some edges, and without some nodes and all their edges.
func (d draw) less(g api.Graph) (out api.Graph) {
	in := pick(d, 2, 3, 6)
	for _, n := range g.Nodes {
		if !d.one(in) {
			out.Nodes = append(out.Nodes, n)
		}
	}
	stays := func(id int64) bool {
		return slices.ContainsFunc(out.Nodes, func(n api.Node) bool { return n.Id == id })
	}
	for _, e := range g.Edges {
		if !d.one(in) && stays(e.From) && stays(e.To) {
			out.Edges = append(out.Edges, e)
		}
	}
	return out
}

// renamed: ids for those of the list, in the same order.
func (d draw) renamed(ids []int64) map[int64]int64 {
	out := map[int64]int64{0: 0}
	id := int64(0)
	for _, old := range ids {
		id += 1 + d.Int63n(pick(d, int64(1), 3, 1<<55))
		out[old] = id
	}
	return out
}
