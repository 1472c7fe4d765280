package paths_test

import (
	"fmt"
	"math"
	"slices"
	"testing"

	"trellis/api"
	"trellis/paths"
)

// endless: from each node one arc to the next id.
func endless(id int64) ([]api.Arc, api.Errno) {
	return []api.Arc{{Edge: -id, To: id + 1, Weight: 2}}, api.OK
}

// star: from node 0 an arc to each of n others, farthest first.
func star(n int) *web {
	w := newWeb()
	for i := n; i > 0; i-- {
		w.add(0, int64(i), int64(i), int64(i))
	}
	return w
}

// TestP903Steps: the 4096th node is settled, the 4097th is not, whether it is the goal or not.
func TestP903Steps(t *testing.T) {
	way, ok, code := paths.Least(endless, 1, api.MaxLook)
	if !ok || code != api.OK || way.Sum != 2*(api.MaxLook-1) || len(way.Nodes) != api.MaxLook || len(way.Edges) != api.MaxLook-1 {
		t.Fatalf("Least to the 4096th = %d, %d nodes, %v, %d", way.Sum, len(way.Nodes), ok, code)
	}
	for i, id := range way.Nodes {
		if id != int64(i+1) || i > 0 && way.Edges[i-1] != int64(-i) {
			t.Fatalf("the way's node %d is %d", i, id)
		}
	}
	for _, to := range ids(api.MaxLook+1, api.MaxLook+2, 0, math.MinInt64) {
		way, ok, code = paths.Least(endless, 1, to)
		same(t, fmt.Sprintf("Least(1, %d)", to), []any{way, ok, code}, []any{api.Way{}, false, api.ErrSteps})
	}
}

func TestP904Steps(t *testing.T) {
	n, ok, code := paths.Hops(endless, 1, api.MaxLook)
	same(t, "Hops to the 4096th", []any{n, ok, code}, []any{api.MaxLook - 1, true, api.OK})
	n, ok, code = paths.Hops(endless, 1, api.MaxLook+1)
	same(t, "Hops to the 4097th", []any{n, ok, code}, []any{0, false, api.ErrSteps})
}

func TestP905Steps(t *testing.T) {
	list, code := paths.Reach(endless, 1, api.MaxLook-1)
	if code != api.OK || !slices.Equal(list, upTo(api.MaxLook)) {
		t.Errorf("Reach of 4096 nodes = %d of them, %d", len(list), code)
	}
	list, code = paths.Reach(endless, 1, api.MaxLook)
	same(t, "Reach of 4097 nodes", []any{list, code}, []any{ids(), api.ErrSteps})
}

// TestP903StepsWide: found are more than may be settled; that alone is no fault.
func TestP903StepsWide(t *testing.T) {
	w := star(3 * api.MaxLook)
	goes(t, w, 0, api.MaxLook-1, api.MaxLook-1, ids(0, api.MaxLook-1), ids(api.MaxLook-1))
	asks(t, w, append(ids(0), upTo(api.MaxLook-2)...)...)
	fails(t, w, 0, api.MaxLook, api.ErrSteps)
	asks(t, w, append(ids(0), upTo(api.MaxLook-1)...)...)
	hops(t, w, 0, api.MaxLook-1, 1, true, api.OK)
	hops(t, w, 0, api.MaxLook, 0, false, api.ErrSteps)
}

// TestP903StepsAll: just 4096 nodes are there, found again and again: the search is over, without a fault.
func TestP903StepsAll(t *testing.T) {
	w := star(api.MaxLook - 1)
	for i := range int64(api.MaxLook - 1) {
		w.add(i, api.MaxLook-1, i, api.MaxLook-2-i) // to the last one, each time no farther than before
		w.add(api.MaxLook-1, i, i, 0)
	}
	fails(t, w, 0, -1, api.OK)
	if n := len(w.trace()); n != api.MaxLook {
		t.Errorf("%d nodes were asked, want 4096", n)
	}
	list, code := paths.Reach(w.of, 0, math.MaxInt)
	if len(list) != api.MaxLook || code != api.OK {
		t.Errorf("Reach of all = %d nodes, %d", len(list), code)
	}
}

// TestP901StepsLast: the 4096th node is asked, and its fault comes ahead of ErrSteps.
func TestP901StepsLast(t *testing.T) {
	for _, want := range []api.Errno{77, api.ErrWeight, api.ErrFar} {
		arcs := func(id int64) ([]api.Arc, api.Errno) {
			list, code := endless(id)
			if id == api.MaxLook {
				list[0].Weight = map[api.Errno]int64{api.ErrWeight: -1, api.ErrFar: api.MaxFar}[want]
				code = map[api.Errno]api.Errno{77: 77}[want]
			}
			return list, code
		}
		_, ok, code := paths.Least(arcs, 1, 9999)
		same(t, "Least", []any{ok, code}, []any{false, want})
	}
}

// TestP906Steps: 4096 unlike nodes may be given, however often; one more is ErrSteps, and nothing is asked.
func TestP906Steps(t *testing.T) {
	w := newWeb()
	most := upTo(api.MaxLook)
	rising := slices.Clone(most)
	slices.Reverse(most)
	orders(t, w, append(slices.Clone(most), most...), rising...)
	asks(t, w, rising...)
	hangs(t, w, append(slices.Clone(most), 1), append(slices.Clone(most), 1)...)
	asks(t, w, rising...)
	for _, many := range [][]int64{append(slices.Clone(most), 0), upTo(api.MaxLook + 1), upTo(3 * api.MaxLook)} {
		list, ok, code := paths.Order(many, w.of)
		same(t, "Order of too many", []any{list, ok, code}, []any{ids(), false, api.ErrSteps})
		list, code = paths.Parts(many, w.of)
		same(t, "Parts of too many", []any{list, code}, []any{ids(), api.ErrSteps})
		asks(t, w)
	}
}

// TestP906Long: as long a row as may be, backwards, and all of it one part; closed it is a ring.
func TestP906Long(t *testing.T) {
	w := newWeb()
	all := upTo(api.MaxLook)
	for _, id := range all[1:] {
		w.add(id, id-1, 0, 0)
	}
	back := slices.Clone(all)
	slices.Reverse(back)
	orders(t, w, all, back...)
	hangs(t, w, back, slices.Repeat(ids(1), api.MaxLook)...)
	w.add(1, api.MaxLook, 0, 0)
	rings(t, w, all...)
	hangs(t, w, all[1:], slices.Repeat(ids(2), api.MaxLook-1)...)
}

// TestP908Crowded: many arcs on many nodes are gone through in good time.
func TestP908Crowded(t *testing.T) {
	const nodes, arcs = 4000, 60
	w := newWeb()
	for i := range int64(nodes) {
		for j := range int64(arcs) {
			w.add(i, (i+1+j*j)%nodes, i*arcs+j, 1+j*j)
		}
	}
	for _, to := range ids(1, nodes/2, nodes-1) {
		way, ok, code := paths.Least(w.of, 0, to)
		if !ok || code != api.OK || way.Sum != to {
			t.Errorf("Least(0, %d) = %d, %v, %d", to, way.Sum, ok, code)
		}
		sound(t, w, 0, to, way)
	}
}
