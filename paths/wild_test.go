package paths_test

import (
	"math"
	"slices"
	"testing"

	"trellis/api"
	"trellis/paths"
)

// TestP901NoArcs: without arcs ErrArg comes ahead of all else.
func TestP901NoArcs(t *testing.T) {
	for _, nodes := range [][]int64{nil, ids(1), ids(1, 1), upTo(api.MaxLook + 1)} {
		for _, to := range ids(1, 2, math.MinInt64) {
			refused(t, nil, 1, to, nodes, api.ErrArg)
		}
	}
	for _, most := range []int{-1, 0, 1, math.MinInt, math.MaxInt} {
		list, code := paths.Reach(nil, 1, most)
		same(t, "Reach without arcs", []any{list, code}, []any{ids(), api.ErrArg})
	}
}

// TestP901Error: an error of arcs ends the call at once, and is its answer, whatever stands beside it.
func TestP901Error(t *testing.T) {
	for _, code := range []api.Errno{1, api.ErrBlocked, api.ErrSteps, 9999, -1, math.MinInt, math.MaxInt} {
		for at := int64(1); at <= 5; at++ {
			w := newWeb()
			for id := int64(1); id <= 5; id++ {
				w.add(id, id+1, id, 1)
			}
			w.fails[at] = code
			w.fails[at+1] = code + 1
			refused(t, w.of, 1, 6, upTo(5), code)
			asks(t, w, slices.Repeat(upTo(int(at)), 5)...)
		}
	}
}

// TestP901ErrorAhead: an error comes ahead of the faults of the arcs beside it.
func TestP901ErrorAhead(t *testing.T) {
	w := newWeb([4]int64{1, 2, 0, -1}, [4]int64{1, 1, 0, math.MaxInt64})
	w.fails[1] = 33
	refused(t, w.of, 1, 2, ids(1), 33)
}

// TestP901Wide: ids may be any numbers.
func TestP901Wide(t *testing.T) {
	w := newWeb()
	for i, id := range wide[1:] {
		w.add(wide[i], id, int64(i), 1)
	}
	n := len(wide) - 1
	goes(t, w, wide[0], wide[n], int64(n), wide, ids(0, 1, 2, 3, 4, 5, 6, 7, 8))
	hops(t, w, wide[0], wide[n], n, true, api.OK)
	reaches(t, w, wide[0], n, wide...)
	back := slices.Clone(wide)
	slices.Reverse(back)
	orders(t, w, back, wide...)
	hangs(t, w, wide, slices.Repeat(wide[:1], len(wide))...)
}

// roomy: the list with room behind it, which nobody may touch: all of it is written full.
func roomy[T any](of []T, full T) []T {
	return append(slices.Clone(of), full, full, full)[:len(of)]
}

// TestP901HandedIn: neither the lists that arcs answers nor nodes are changed, their spare room neither.
func TestP901HandedIn(t *testing.T) {
	w := chapter()
	full := api.Arc{Edge: 77, To: 77, Weight: 77}
	was := map[int64][]api.Arc{}
	for id, list := range w.arcs {
		w.arcs[id] = roomy(list, full)
		was[id] = slices.Clone(w.arcs[id][:cap(w.arcs[id])])
	}
	nodes := roomy(ids(4, 2, 6, 3, 3, 5), 77)
	wasNodes := slices.Clone(nodes[:cap(nodes)])
	paths.Least(w.of, 1, 4)
	paths.Least(w.of, 1, 9)
	paths.Hops(w.of, 1, 9)
	paths.Reach(w.of, 1, 9)
	paths.Order(nodes, w.of)
	paths.Parts(nodes, w.of)
	same(t, "nodes and its spare room", nodes[:cap(nodes)], wasNodes)
	for id, list := range w.arcs {
		same(t, "a list of arcs and its spare room", list[:cap(list)], was[id])
	}
}

// TestP901HandedOut: what is answered is new memory: what is written into it, or appended to it, is seen by nobody.
func TestP901HandedOut(t *testing.T) {
	w := chapter()
	nodes := roomy(ids(5, 6, 5), 77)
	for range 2 {
		way, _, _ := paths.Least(w.of, 1, 4)
		reach, _ := paths.Reach(w.of, 1, 9)
		order, _, _ := paths.Order(nodes, w.of)
		parts, _ := paths.Parts(nodes, w.of)
		want := [][]int64{{1, 3, 2, 4}, {12, 13, 14}, {1, 2, 3, 4}, {5, 6}, {5, 5, 5}}
		lists := [][]int64{way.Nodes, way.Edges, reach, order, parts}
		same(t, "the answers", lists, want)
		for i, l := range lists {
			l = l[:cap(l)]
			for j := range l {
				l[j] = 95
			}
			for k := i + 1; k < len(lists); k++ {
				same(t, "a list behind writing into another", lists[k], want[k])
			}
		}
		same(t, "nodes and its spare room", nodes[:6], ids(5, 6, 5, 77, 77, 77))
	}
}

// TestP901Within: a function that itself searches does not disturb the search that asks it.
func TestP901Within(t *testing.T) {
	w := chapter()
	arcs := func(id int64) ([]api.Arc, api.Errno) {
		reaches(t, w, 5, 9, 5, 6)
		orders(t, w, ids(6, 5), 5, 6)
		return w.arcs[id], api.OK
	}
	way, ok, code := paths.Least(arcs, 1, 4)
	same(t, "Least", []any{way, ok, code}, []any{api.Way{Sum: 3, Nodes: ids(1, 3, 2, 4), Edges: ids(12, 13, 14)}, true, api.OK})
}

// TestP901Again: what a call answers hangs on its arguments alone.
func TestP901Again(t *testing.T) {
	for range 20 {
		w := chapter()
		fails(t, w, 1, 5, api.OK)
		w.fails[3] = 8
		fails(t, w, 1, 5, 8)
		delete(w.fails, 3)
		goes(t, w, 1, 4, 3, ids(1, 3, 2, 4), ids(12, 13, 14))
		hangs(t, w, ids(6, 1, 3, 5, 6), 5, 1, 1, 5, 5)
	}
}
