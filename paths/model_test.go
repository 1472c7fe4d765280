package paths_test

import (
	"fmt"
	"math"
	"math/rand"
	"slices"
	"testing"

	"trellis/api"
	"trellis/paths"
)

// drawnWebs: drawn webs, most of them sound; some with weights that are faults, some that answer errors.
func drawnWebs(t *testing.T, look func(t *testing.T, r *rand.Rand, w *web, nodes []int64)) {
	weights := [][]int64{{0}, {1}, {0, 1}, {0, 0, 1, 2}, {1, 2, 3, 5, 8}, {0, 1, 2, -1}, {0, api.MaxFar / 2, api.MaxFar / 4}, {1, api.MaxFar}, {3, math.MaxInt64, math.MinInt64}}
	for seed := range int64(1200) {
		r := rand.New(rand.NewSource(9000 + seed))
		nodes := some(r, wide)
		if seed%3 == 0 {
			nodes = some(r, upTo(25))
		}
		w := drawnWeb(r, nodes, r.Intn(4*len(nodes)), weights[int(seed)%len(weights)]...)
		if seed%5 == 0 {
			w.fails[nodes[r.Intn(len(nodes))]] = api.Errno(r.Intn(200) - 20)
		}
		look(t, r, w, nodes)
		if t.Failed() {
			t.Fatalf("seed %d: %+v", seed, w)
		}
	}
}

func TestP903Drawn(t *testing.T) {
	drawnWebs(t, func(t *testing.T, r *rand.Rand, w *web, nodes []int64) {
		for range 6 {
			from, to := nodes[r.Intn(len(nodes))], wide[r.Intn(len(wide))]
			if r.Intn(3) > 0 {
				to = nodes[r.Intn(len(nodes))]
			}
			way, ok, code := paths.Least(w.of, from, to)
			wantWay, wantOk, wantCode, asked := bookLeast(w, from, to)
			same(t, fmt.Sprintf("Least(%d, %d)", from, to), []any{way, ok, code}, []any{wantWay, wantOk, wantCode})
			asks(t, w, asked...)
		}
	})
}

func TestP904Drawn(t *testing.T) {
	drawnWebs(t, func(t *testing.T, r *rand.Rand, w *web, nodes []int64) {
		for range 6 {
			from, to := nodes[r.Intn(len(nodes))], nodes[r.Intn(len(nodes))]
			want, ok, code, asked := bookHops(w, from, to)
			hops(t, w, from, to, int(want), ok, code)
			asks(t, w, asked...)
		}
	})
}

func TestP905Drawn(t *testing.T) {
	drawnWebs(t, func(t *testing.T, r *rand.Rand, w *web, nodes []int64) {
		for _, most := range []int{0, 1, 2, 3, r.Intn(20), math.MaxInt} {
			from := nodes[r.Intn(len(nodes))]
			list, code := paths.Reach(w.of, from, most)
			want, wantCode, asked := bookReach(w, from, most)
			same(t, fmt.Sprintf("Reach(%d, %d)", from, most), []any{list, code}, []any{want, wantCode})
			asks(t, w, asked...)
		}
	})
}

// sparseWebs: drawn webs with few arcs, so that many of them have no ring.
func sparseWebs(t *testing.T, look func(t *testing.T, r *rand.Rand, w *web, nodes []int64)) {
	for seed := range int64(1500) {
		r := rand.New(rand.NewSource(19000 + seed))
		all := upTo(1 + r.Intn(25))
		if seed%3 == 0 {
			all = wide
		}
		w := drawnWeb(r, all, r.Intn(1+len(all)), 0, -1, math.MaxInt64)
		if seed%4 == 0 { // no rings at all: by a drawn order of the nodes all arcs go one way
			w = oneWay(r, all)
		}
		look(t, r, w, some(r, all))
		if t.Failed() {
			t.Fatalf("seed %d: %+v", seed, w)
		}
	}
}

// oneWay: a web without rings.
func oneWay(r *rand.Rand, of []int64) *web {
	all := slices.Clone(of)
	r.Shuffle(len(all), func(i, j int) { all[i], all[j] = all[j], all[i] })
	w := newWeb()
	for range 2 * len(all) {
		if i, j := r.Intn(len(all)), r.Intn(len(all)); i < j {
			w.add(all[i], all[j], 0, 0)
		}
	}
	return w
}

func TestP906Drawn(t *testing.T) {
	sound := 0
	sparseWebs(t, func(t *testing.T, r *rand.Rand, w *web, nodes []int64) {
		want, ok := bookOrder(w, nodes)
		if !ok {
			rings(t, w, twice(r, nodes)...)
		} else {
			orders(t, w, twice(r, nodes), want...)
			sound++
		}
		asks(t, w, slices.Sorted(slices.Values(nodes))...)
	})
	if sound < 300 || sound > 1200 {
		t.Errorf("%d of 1500 webs had an order: the draw is lopsided", sound)
	}
}

// twice: the list with some of its elements once more.
func twice(r *rand.Rand, of []int64) []int64 {
	out := slices.Clone(of)
	for range r.Intn(4) {
		out = slices.Insert(out, r.Intn(len(out)), of[r.Intn(len(of))])
	}
	return out
}

func TestP907Drawn(t *testing.T) {
	sparseWebs(t, func(t *testing.T, r *rand.Rand, w *web, nodes []int64) {
		given := twice(r, nodes)
		hangs(t, w, given, bookParts(w, given)...)
		asks(t, w, slices.Sorted(slices.Values(nodes))...)
	})
}
