package paths_test

import (
	"slices"

	"trellis/api"
)

// book: a search, reckoned a second time by the chapter's words: before each settling all arcs of all settled nodes are gone through.
type book struct {
	w     *web
	hops  bool // is every weight counted as 1?
	nodes []int64
	sums  []int64
	mute  []bool // is the node not asked for its arcs?
	asked []int64
}

func (b *book) weight(a api.Arc) int64 {
	if b.hops {
		return 1
	}
	return a.Weight
}

// run: the search from a node; a node for which over is true ends it, one for which mute is true is not asked.
func (b *book) run(from int64, over, mute func(node, sum int64) bool) (bool, api.Errno) {
	node, sum, found := from, int64(0), true
	for found {
		if len(b.nodes) == api.MaxLook {
			return false, api.ErrSteps
		}
		b.nodes, b.sums, b.mute = append(b.nodes, node), append(b.sums, sum), append(b.mute, mute(node, sum))
		if over(node, sum) {
			return true, api.OK
		}
		if !mute(node, sum) {
			if code := b.ask(node, sum); code != api.OK {
				return false, code
			}
		}
		node, sum, found = b.next()
	}
	return false, api.OK
}

// ask: the node's arcs are asked for: the first fault in them.
func (b *book) ask(node, sum int64) api.Errno {
	b.asked = append(b.asked, node)
	if code := b.w.fails[node]; code != api.OK {
		return code
	}
	for _, a := range b.w.arcs[node] {
		if b.weight(a) < 0 {
			return api.ErrWeight
		}
		if b.weight(a) > api.MaxFar || sum+b.weight(a) > api.MaxFar {
			return api.ErrFar
		}
	}
	return api.OK
}

// next: the node that is settled next.
func (b *book) next() (node, sum int64, found bool) {
	for i, x := range b.nodes {
		if b.mute[i] {
			continue
		}
		for _, a := range b.w.arcs[x] {
			far := b.sums[i] + b.weight(a)
			if slices.Contains(b.nodes, a.To) {
				continue
			}
			if !found || far < sum || far == sum && a.To < node {
				node, sum, found = a.To, far, true
			}
		}
	}
	return node, sum, found
}

// way: the way to the node that was settled as the i-th, 0 for the first.
func (b *book) way(i int) api.Way {
	if i == 0 {
		return api.Way{Nodes: b.nodes[:1:1]}
	}
	for j := range i {
		for _, a := range b.w.arcs[b.nodes[j]] {
			if a.To == b.nodes[i] && b.sums[j]+b.weight(a) == b.sums[i] {
				w := b.way(j)
				return api.Way{Sum: b.sums[i], Nodes: append(w.Nodes, a.To), Edges: append(w.Edges, a.Edge)}
			}
		}
	}
	panic("a node was settled to which no arc leads")
}

func never(int64, int64) bool { return false }

// bookLeast, bookHops, bookReach: what the calls must answer, and which nodes must be asked.

func bookLeast(w *web, from, to int64) (api.Way, bool, api.Errno, []int64) {
	b := &book{w: w}
	ok, code := b.run(from, func(node, _ int64) bool { return node == to }, never)
	if !ok {
		return api.Way{}, false, code, b.asked
	}
	return b.way(len(b.nodes) - 1), true, code, b.asked
}

func bookHops(w *web, from, to int64) (int64, bool, api.Errno, []int64) {
	b := &book{w: w, hops: true}
	ok, code := b.run(from, func(node, _ int64) bool { return node == to }, never)
	if !ok {
		return 0, false, code, b.asked
	}
	return b.sums[len(b.sums)-1], true, code, b.asked
}

func bookReach(w *web, from int64, most int) ([]int64, api.Errno, []int64) {
	b := &book{w: w, hops: true}
	_, code := b.run(from, never, func(_, sum int64) bool { return sum == int64(most) })
	if code != api.OK {
		return nil, code, b.asked
	}
	return b.nodes, code, b.asked
}

// leads: is there an arc from a to b?
func (w *web) leads(a, b int64) bool {
	return slices.ContainsFunc(w.arcs[a], func(x api.Arc) bool { return x.To == b })
}

// bookOrder: the order of nodes that stand once each, by the chapter's words; false: they go round.
func bookOrder(w *web, nodes []int64) ([]int64, bool) {
	left := slices.Sorted(slices.Values(nodes))
	var out []int64
	for len(left) > 0 {
		at := slices.IndexFunc(left, func(x int64) bool {
			return !slices.ContainsFunc(left, func(y int64) bool { return w.leads(y, x) })
		})
		if at < 0 {
			return nil, false
		}
		out = append(out, left[at])
		left = slices.Delete(left, at, at+1)
	}
	return out, true
}

// bookParts: the least that hang together with each of the nodes, by going from neighbour to neighbour until nothing changes.
func bookParts(w *web, nodes []int64) []int64 {
	out := slices.Clone(nodes)
	for changed := true; changed; {
		changed = false
		for i, x := range nodes {
			for j, y := range nodes {
				if (x == y || w.leads(x, y) || w.leads(y, x)) && out[j] < out[i] {
					out[i], changed = out[j], true
				}
			}
		}
	}
	return out
}
