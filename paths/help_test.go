package paths_test

import (
	"fmt"
	"math"
	"math/rand"
	"slices"
	"testing"

	"trellis/api"
	"trellis/paths"
)

// web: a graph that is asked node by node, and what it was asked.
type web struct {
	arcs  map[int64][]api.Arc
	fails map[int64]api.Errno // what is answered instead, beside the arcs
	asked []int64
}

func (w *web) of(id int64) ([]api.Arc, api.Errno) {
	w.asked = append(w.asked, id)
	return w.arcs[id], w.fails[id]
}

// trace: the nodes that were asked since the last time.
func (w *web) trace() []int64 {
	out := w.asked
	w.asked = nil
	return out
}

// newWeb: a web of arcs, each written as from, to, edge, weight.
func newWeb(arcs ...[4]int64) *web {
	w := &web{arcs: map[int64][]api.Arc{}, fails: map[int64]api.Errno{}}
	for _, a := range arcs {
		w.add(a[0], a[1], a[2], a[3])
	}
	return w
}

// add: one more arc, the last one of its node.
func (w *web) add(from, to, edge, weight int64) {
	w.arcs[from] = append(w.arcs[from], api.Arc{Edge: edge, To: to, Weight: weight})
}

// chapter: the arcs of the chapter's examples.
func chapter() *web {
	return newWeb([4]int64{1, 2, 11, 4}, [4]int64{1, 3, 12, 1}, [4]int64{3, 2, 13, 2}, [4]int64{2, 4, 14, 0}, [4]int64{4, 1, 15, 9}, [4]int64{5, 6, 16, 0})
}

// wide: ids that may trip who takes them for places, or for numbers from 1 on.
var wide = []int64{math.MinInt64, math.MinInt64 + 1, -5, -1, 0, 1, 2, 7, math.MaxInt64 - 1, math.MaxInt64}

// drawnWeb: a web of drawn arcs between the ids.
func drawnWeb(r *rand.Rand, ids []int64, arcs int, weights ...int64) *web {
	w := newWeb()
	for e := range arcs {
		w.add(ids[r.Intn(len(ids))], ids[r.Intn(len(ids))], int64(e), weights[r.Intn(len(weights))])
	}
	return w
}

// some: drawn ids of the list, each once.
func some(r *rand.Rand, of []int64) []int64 {
	out := slices.Clone(of)
	r.Shuffle(len(out), func(i, j int) { out[i], out[j] = out[j], out[i] })
	return out[:1+r.Intn(len(out))]
}

func ids(of ...int64) []int64 { return of }

// upTo: the ids from 1 to n.
func upTo(n int) []int64 {
	out := make([]int64, n)
	for i := range out {
		out[i] = int64(i + 1)
	}
	return out
}

// same: do the two tell the same? (A list that is nil tells the same as one without elements.)
func same(t *testing.T, what string, got, want any) {
	t.Helper()
	if g, w := fmt.Sprintf("%+v", got), fmt.Sprintf("%+v", want); g != w {
		t.Errorf("%s = %s, want %s", what, g, w)
	}
}

// asks: these nodes were asked since the last time, in this order.
func asks(t *testing.T, w *web, want ...int64) {
	t.Helper()
	same(t, "the nodes that were asked", w.trace(), want)
}

// goes: Least must answer that way.
func goes(t *testing.T, w *web, from, to, sum int64, nodes, edges []int64) {
	t.Helper()
	way, ok, code := paths.Least(w.of, from, to)
	same(t, fmt.Sprintf("Least(%d, %d)", from, to), []any{way, ok, code}, []any{api.Way{Sum: sum, Nodes: nodes, Edges: edges}, true, api.OK})
}

// fails: Least must answer no way, and that code.
func fails(t *testing.T, w *web, from, to int64, want api.Errno) {
	t.Helper()
	way, ok, code := paths.Least(w.of, from, to)
	same(t, fmt.Sprintf("Least(%d, %d)", from, to), []any{way, ok, code}, []any{api.Way{}, false, want})
}

// hops: Hops must answer so.
func hops(t *testing.T, w *web, from, to int64, want int, found bool, fault api.Errno) {
	t.Helper()
	n, ok, code := paths.Hops(w.of, from, to)
	same(t, fmt.Sprintf("Hops(%d, %d)", from, to), []any{n, ok, code}, []any{want, found, fault})
}

// reaches: Reach must answer these nodes.
func reaches(t *testing.T, w *web, from int64, most int, want ...int64) {
	t.Helper()
	list, code := paths.Reach(w.of, from, most)
	same(t, fmt.Sprintf("Reach(%d, %d)", from, most), []any{list, code}, []any{want, api.OK})
}

// orders: Order must answer this list.
func orders(t *testing.T, w *web, nodes []int64, want ...int64) {
	t.Helper()
	list, ok, code := paths.Order(nodes, w.of)
	same(t, fmt.Sprintf("Order(%v)", nodes), []any{list, ok, code}, []any{want, true, api.OK})
}

// rings: Order must answer that the arcs go round.
func rings(t *testing.T, w *web, nodes ...int64) {
	t.Helper()
	list, ok, code := paths.Order(nodes, w.of)
	same(t, fmt.Sprintf("Order(%v)", nodes), []any{list, ok, code}, []any{ids(), false, api.OK})
}

// hangs: Parts must answer this list.
func hangs(t *testing.T, w *web, nodes []int64, want ...int64) {
	t.Helper()
	list, code := paths.Parts(nodes, w.of)
	same(t, fmt.Sprintf("Parts(%v)", nodes), []any{list, code}, []any{want, api.OK})
}

// refused: each of the five calls, from that node on or with these nodes, must answer that error and zero values.
func refused(t *testing.T, arcs func(int64) ([]api.Arc, api.Errno), from, to int64, nodes []int64, want api.Errno) {
	t.Helper()
	way, ok, code := paths.Least(arcs, from, to)
	same(t, "Least", []any{way, ok, code}, []any{api.Way{}, false, want})
	n, ok, code := paths.Hops(arcs, from, to)
	same(t, "Hops", []any{n, ok, code}, []any{0, false, want})
	list, code := paths.Reach(arcs, from, math.MaxInt)
	same(t, "Reach", []any{list, code}, []any{ids(), want})
	list, ok, code = paths.Order(nodes, arcs)
	same(t, "Order", []any{list, ok, code}, []any{ids(), false, want})
	list, code = paths.Parts(nodes, arcs)
	same(t, "Parts", []any{list, code}, []any{ids(), want})
}
