package paths

import (
	"maps"
	"slices"

	"trellis/api"
)

// piece: a piece of a graph: some nodes, and the arcs between them.
type piece struct {
	ids  []int64       // rising
	at   map[int64]int // where an id stands in ids
	arcs [][]int       // for each node of ids where the arcs that stay in the piece lead to, as places in ids
}

// newPiece: the piece of these nodes, each of which is asked for its arcs.
func newPiece(nodes []int64, arcs func(id int64) ([]api.Arc, api.Errno)) (*piece, api.Errno) {
	if arcs == nil {
		return nil, api.ErrArg
	}
	p := &piece{at: map[int64]int{}}
	for _, id := range nodes {
		p.at[id] = 0
		if len(p.at) > api.MaxLook {
			return nil, api.ErrSteps
		}
	}
	p.ids = slices.Sorted(maps.Keys(p.at))
	for i, id := range p.ids {
		p.at[id] = i
	}
	for _, id := range p.ids {
		list, code := arcs(id)
		if code != api.OK {
			return nil, code
		}
		p.arcs = append(p.arcs, p.inside(list))
	}
	return p, api.OK
}

// inside: where the arcs of the list that stay in the piece lead to.
func (p *piece) inside(list []api.Arc) []int {
	var to []int
	for _, a := range list {
		if i, ok := p.at[a.To]; ok {
			to = append(to, i)
		}
	}
	return to
}

// order: the nodes, each as soon as no arc leads to it from one that is still to come, the least id first; of rings, and of what hangs behind them, none.
func (p *piece) order() []int64 {
	waits := make([]int, len(p.ids)) // how many arcs lead to each from nodes that are still to come
	for _, list := range p.arcs {
		for _, to := range list {
			waits[to]++
		}
	}
	ready := NewHeap(func(a, b int) bool { return p.ids[a] < p.ids[b] })
	for i, w := range waits {
		if w == 0 {
			ready.Push(i)
		}
	}
	var out []int64
	for i, ok := ready.Pop(); ok; i, ok = ready.Pop() {
		out = append(out, p.ids[i])
		for _, to := range p.arcs[i] {
			if waits[to]--; waits[to] == 0 {
				ready.Push(to)
			}
		}
	}
	return out
}

// parts: for each node of ids the place of the least one that hangs together with it.
func (p *piece) parts() []int {
	first := make([]int, len(p.ids)) // one that hangs together with it and stands no further behind
	for i := range first {
		first[i] = i
	}
	for i, list := range p.arcs {
		for _, to := range list {
			a, b := head(first, i), head(first, to)
			first[max(a, b)] = min(a, b)
		}
	}
	for i := range first {
		first[i] = first[first[i]] // those ahead are mended already
	}
	return first
}

// head: the foremost to which first leads from i; the next time it is nearer.
func head(first []int, i int) int {
	for first[i] != i {
		first[i] = first[first[i]]
		i = first[i]
	}
	return i
}
