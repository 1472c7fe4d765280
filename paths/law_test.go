package paths_test

import (
	"math/rand"
	"slices"
	"testing"

	"trellis/api"
	"trellis/paths"
)

// sound: the way is one: it begins and ends as asked, is joined by arcs, and these add up.
func sound(t *testing.T, w *web, from, to int64, way api.Way) {
	t.Helper()
	if len(way.Nodes) != len(way.Edges)+1 || way.Nodes[0] != from || way.Nodes[len(way.Nodes)-1] != to {
		t.Fatalf("%+v is no way from %d to %d", way, from, to)
	}
	left := map[int64]int{way.Sum: 0} // what the arcs so far may have left of the sum
	for i, edge := range way.Edges {
		next := map[int64]int{}
		for _, a := range w.arcs[way.Nodes[i]] {
			if a.Edge == edge && a.To == way.Nodes[i+1] {
				for l := range left {
					next[l-a.Weight] = i
				}
			}
		}
		left = next
	}
	if _, ok := left[0]; !ok {
		t.Fatalf("%+v does not add up to its sum", way)
	}
}

// sums: the least sums between all nodes from 0 to n - 1, by going over each node in turn.
func sums(w *web, n int64) [][]int64 {
	out := make([][]int64, n)
	for i := range out {
		out[i] = slices.Repeat(ids(api.MaxFar), int(n))
		out[i][i] = 0
		for _, a := range w.arcs[int64(i)] {
			out[i][a.To] = min(out[i][a.To], a.Weight)
		}
	}
	for k := range n {
		for i := range n {
			for j := range n {
				out[i][j] = min(out[i][j], out[i][k]+out[k][j])
			}
		}
	}
	return out
}

// TestP908Least: ways are ways, none has a lesser sum, and where none is answered there is none.
func TestP908Least(t *testing.T) {
	found, none := 0, 0
	for seed := range int64(150) {
		r := rand.New(rand.NewSource(seed))
		n := 1 + r.Int63n(30)
		all := slices.Collect(func(yield func(int64) bool) {
			for i := int64(0); i < n && yield(i); i++ {
			}
		})
		w := drawnWeb(r, all, r.Intn(int(3*n)), 0, 0, 1, 2, 3, 10, 50, r.Int63n(1000))
		least := sums(w, n)
		for from := range n {
			for to := range n {
				way, ok, code := paths.Least(w.of, from, to)
				if code != api.OK || ok != (least[from][to] < api.MaxFar) || ok && way.Sum != least[from][to] {
					t.Fatalf("seed %d: Least(%d, %d) = %+v, %v, %d, want the sum %d", seed, from, to, way, ok, code, least[from][to])
				}
				if !ok {
					none++
					continue
				}
				found++
				sound(t, w, from, to, way)
			}
		}
	}
	if found < 5000 || none < 5000 {
		t.Errorf("%d ways were found, %d were not: the draw is lopsided", found, none)
	}
}

// TestP908Hops: Hops tells the least sum where every weight is 1, and Reach all nodes of at most so many.
func TestP908Hops(t *testing.T) {
	r := rand.New(rand.NewSource(98))
	for range 100 {
		w := drawnWeb(r, upTo(12), r.Intn(30), 1)
		for from := int64(1); from <= 12; from++ {
			most := r.Intn(5)
			var near []int64
			for to := int64(1); to <= 12; to++ {
				way, ok, code := paths.Least(w.of, from, to)
				hops(t, w, from, to, len(way.Edges), ok, code)
				if ok && len(way.Edges) <= most {
					near = append(near, to)
				}
			}
			list, code := paths.Reach(w.of, from, most)
			slices.Sort(list)
			same(t, "Reach", []any{list, code}, []any{near, api.OK})
		}
	}
}
