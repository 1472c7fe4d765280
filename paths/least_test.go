package paths_test

import (
	"math"
	"testing"

	"trellis/api"
	"trellis/paths"
)

// TestP903Itself: from a node to itself nothing is asked, whatever it would answer.
func TestP903Itself(t *testing.T) {
	for _, id := range wide {
		w := newWeb([4]int64{id, id, 1, -1})
		w.fails[id] = 7
		goes(t, w, id, id, 0, ids(id), nil)
		asks(t, w)
	}
}

// TestP903Ties: of ways with the same sum, the one over the node that was settled first; of its arcs the first.
func TestP903Ties(t *testing.T) {
	w := newWeb([4]int64{1, 9, 10, 5}, [4]int64{1, 3, 11, 2}, [4]int64{1, 2, 12, 2}, [4]int64{1, 9, 13, 4}, [4]int64{1, 9, 14, 4},
		[4]int64{3, 9, 15, 2}, [4]int64{2, 9, 16, 2}, [4]int64{2, 9, 17, 2})
	goes(t, w, 1, 9, 4, ids(1, 9), ids(13))
	asks(t, w, 1, 2, 3)
	w.arcs[1] = w.arcs[1][:3]
	goes(t, w, 1, 9, 4, ids(1, 2, 9), ids(12, 16))
	asks(t, w, 1, 2, 3)
	w.arcs[2] = nil
	goes(t, w, 1, 9, 4, ids(1, 3, 9), ids(11, 15))
}

// TestP903SettledFirst: the node that was settled first counts, not the one with the lesser id.
func TestP903SettledFirst(t *testing.T) {
	w := newWeb([4]int64{5, 8, 1, 1}, [4]int64{5, 2, 2, 2}, [4]int64{8, 9, 3, 3}, [4]int64{2, 9, 4, 2})
	goes(t, w, 5, 9, 4, ids(5, 8, 9), ids(1, 3))
	asks(t, w, 5, 8, 2)
}

// TestP903Nothing: arcs of no weight: a node that is found late is settled next, if its id is the least of that sum.
func TestP903Nothing(t *testing.T) {
	w := newWeb([4]int64{5, 6, 1, 0}, [4]int64{5, 9, 2, 0}, [4]int64{6, 3, 3, 0}, [4]int64{3, 5, 4, 0}, [4]int64{3, 9, 5, 0}, [4]int64{9, 1, 6, 0})
	goes(t, w, 5, 1, 0, ids(5, 9, 1), ids(2, 6))
	asks(t, w, 5, 6, 3, 9)
	fails(t, w, 5, 100, api.OK)
	asks(t, w, 5, 6, 3, 9, 1)
}

// TestP903Loops: arcs to the node itself, and back to settled ones, lead nowhere.
func TestP903Loops(t *testing.T) {
	w := newWeb([4]int64{1, 1, 1, 0}, [4]int64{1, 2, 2, 0}, [4]int64{2, 1, 3, 0}, [4]int64{2, 2, 4, 0}, [4]int64{2, 2, 5, 1}, [4]int64{2, 3, 6, 1})
	goes(t, w, 1, 3, 1, ids(1, 2, 3), ids(2, 6))
	asks(t, w, 1, 2)
	fails(t, w, 3, 1, api.OK)
	asks(t, w, 3)
}

// TestP903Better: what was found is found better, again and again.
func TestP903Better(t *testing.T) {
	w := newWeb([4]int64{1, 9, 1, 100}, [4]int64{1, 9, 2, 90}, [4]int64{1, 9, 3, 95}, [4]int64{1, 2, 4, 1}, [4]int64{2, 9, 5, 80}, [4]int64{2, 3, 6, 1}, [4]int64{3, 9, 7, 70}, [4]int64{3, 9, 8, 70})
	goes(t, w, 1, 9, 72, ids(1, 2, 3, 9), ids(4, 6, 7))
	fails(t, w, 1, 10, api.OK)
	w.trace()
	fails(t, w, 1, 10, api.OK)
	asks(t, w, 1, 2, 3, 9)
}

// TestP903Weights: the first arc of a fault ends the search, as soon as its node is asked, wherever it leads.
func TestP903Weights(t *testing.T) {
	for _, c := range []struct {
		weights []int64
		want    api.Errno
	}{
		{ids(0), api.OK}, {ids(-1), api.ErrWeight}, {ids(math.MinInt64), api.ErrWeight}, {ids(0, 5, -1), api.ErrWeight},
		{ids(api.MaxFar), api.OK}, {ids(api.MaxFar + 1), api.ErrFar}, {ids(math.MaxInt64), api.ErrFar},
		{ids(-1, math.MaxInt64), api.ErrWeight}, {ids(math.MaxInt64, -1), api.ErrFar}, {ids(3, api.MaxFar+1, math.MinInt64), api.ErrFar},
	} {
		for _, leadsTo := range ids(1, 2, 77) { // itself, the goal, elsewhere
			w := newWeb()
			for _, x := range c.weights {
				w.add(1, leadsTo, 5, x)
			}
			w.add(1, 2, 6, 0)
			if c.want != api.OK {
				fails(t, w, 1, 2, c.want)
				asks(t, w, 1)
			} else if _, ok, code := paths.Least(w.of, 1, 2); !ok || code != api.OK {
				t.Errorf("Least over the weights %v = %v, %d", c.weights, ok, code)
			}
		}
	}
}

// TestP903Far: the sum up to the node counts; just MaxFar is not too far.
func TestP903Far(t *testing.T) {
	w := newWeb([4]int64{1, 2, 1, api.MaxFar - 10}, [4]int64{2, 3, 2, 10})
	goes(t, w, 1, 3, api.MaxFar, ids(1, 2, 3), ids(1, 2))
	w.add(3, 4, 3, 0)
	goes(t, w, 1, 4, api.MaxFar, ids(1, 2, 3, 4), ids(1, 2, 3))
	w.add(2, 1, 4, 11) // back to a node that is settled: it is looked at all the same
	goes(t, w, 1, 2, api.MaxFar-10, ids(1, 2), ids(1))
	fails(t, w, 1, 3, api.ErrFar)
	w.arcs[2] = w.arcs[2][:1]
	w.add(3, 3, 5, 1)
	goes(t, w, 1, 3, api.MaxFar, ids(1, 2, 3), ids(1, 2))
	fails(t, w, 1, 4, api.ErrFar)
	w = newWeb([4]int64{1, 2, 1, api.MaxFar}, [4]int64{2, 3, 2, math.MaxInt64})
	fails(t, w, 1, 3, api.ErrFar)
}

// TestP903NotAsked: a fault at a node that is settled behind the goal, or is the goal, is not seen.
func TestP903NotAsked(t *testing.T) {
	w := newWeb([4]int64{1, 2, 1, 3}, [4]int64{1, 3, 2, 3}, [4]int64{3, 4, 3, -1}, [4]int64{2, 5, 4, -1})
	w.fails[3] = 5
	goes(t, w, 1, 2, 3, ids(1, 2), ids(1))
	asks(t, w, 1)
	fails(t, w, 1, 3, api.ErrWeight)
	asks(t, w, 1, 2)
}

// TestP904Weights: a search by hops looks at no weights.
func TestP904Weights(t *testing.T) {
	w := newWeb([4]int64{1, 2, 1, -1}, [4]int64{2, 3, 2, math.MaxInt64}, [4]int64{3, 4, 3, math.MinInt64}, [4]int64{1, 3, 4, 1000})
	hops(t, w, 1, 4, 2, true, api.OK)
	asks(t, w, 1, 2, 3)
	reaches(t, w, 1, 1, 1, 2, 3)
	reaches(t, w, 1, math.MaxInt, 1, 2, 3, 4)
}

// TestP904Plain: hops on a ring, both ways round, and where there is no way.
func TestP904Plain(t *testing.T) {
	w := newWeb()
	for i := range int64(10) {
		w.add(i, (i+1)%10, i, 1)
	}
	for from := range int64(10) {
		for to := range int64(10) {
			hops(t, w, from, to, int((to-from+10)%10), true, api.OK)
		}
	}
	w.trace()
	hops(t, w, 3, 10, 0, false, api.OK)
	asks(t, w, 3, 4, 5, 6, 7, 8, 9, 0, 1, 2)
	hops(t, w, 10, 3, 0, false, api.OK)
	asks(t, w, 10)
}

// TestP905Most: by the hops, then by the id; those as far as may be are not asked; below 0 is nothing.
func TestP905Most(t *testing.T) {
	w := newWeb([4]int64{5, 9, 0, 0}, [4]int64{5, 4, 0, 0}, [4]int64{5, 5, 0, 0}, [4]int64{9, 1, 0, 0}, [4]int64{4, 8, 0, 0}, [4]int64{4, 9, 0, 0}, [4]int64{8, 2, 0, 0}, [4]int64{1, 3, 0, 0}, [4]int64{3, -7, 0, 0})
	lists := [][]int64{ids(5), ids(5, 4, 9), ids(5, 4, 9, 1, 8), ids(5, 4, 9, 1, 8, 2, 3), ids(5, 4, 9, 1, 8, 2, 3, -7)}
	for most, want := range lists {
		reaches(t, w, 5, most, want...)
		if most > 0 {
			asks(t, w, lists[most-1]...)
		} else {
			asks(t, w)
		}
	}
	reaches(t, w, 5, 5, lists[4]...)
	asks(t, w, lists[4]...)
	for _, most := range []int{-1, -2, math.MinInt} {
		list, code := paths.Reach(w.of, 5, most)
		same(t, "Reach", []any{list, code}, []any{ids(), api.ErrArg})
		asks(t, w)
	}
}
