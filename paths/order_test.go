package paths_test

import (
	"testing"

	"trellis/api"
)

func TestP906Nothing(t *testing.T) {
	w := chapter()
	orders(t, w, nil)
	orders(t, w, ids())
	asks(t, w)
	hangs(t, w, nil)
	hangs(t, w, ids())
	asks(t, w)
}

// TestP906Least: again and again the least that may come, also one that came free late.
func TestP906Least(t *testing.T) {
	w := newWeb([4]int64{9, 1, 0, 0}, [4]int64{4, 2, 0, 0}, [4]int64{2, 3, 0, 0}, [4]int64{2, 3, 0, 0}, [4]int64{9, 3, 0, 0})
	orders(t, w, ids(1, 2, 3, 4, 5, 9), 4, 2, 5, 9, 1, 3)
	orders(t, w, ids(5, 3, 2), 2, 3, 5)
	orders(t, w, wide, wide...)
	orders(t, newWeb(), ids(3, -1, 3, 2), -1, 2, 3)
}

// TestP906Rings: of any length, and wherever; those that leave the nodes are none.
func TestP906Rings(t *testing.T) {
	w := newWeb([4]int64{1, 2, 0, 0}, [4]int64{2, 3, 0, 0}, [4]int64{3, 2, 0, 0}, [4]int64{3, 4, 0, 0}, [4]int64{6, 6, 0, 0}, [4]int64{4, 7, 0, 0}, [4]int64{7, 8, 0, 0}, [4]int64{8, 4, 0, 0})
	rings(t, w, 1, 2, 3, 4)
	rings(t, w, 2, 3)
	rings(t, w, 6)
	rings(t, w, 1, 5, 6, 9)
	rings(t, w, 8, 7, 4)
	orders(t, w, ids(1, 2, 4, 5), 1, 2, 4, 5)
	orders(t, w, ids(4, 8, 1), 1, 8, 4)
}

// TestP906AllAsked: all nodes are asked, rising, also where a ring was to be seen early; an error behind it is the answer.
func TestP906AllAsked(t *testing.T) {
	w := newWeb([4]int64{1, 1, 0, 0})
	rings(t, w, 3, 1, 2, 1)
	asks(t, w, 1, 2, 3)
	w.fails[2] = 9
	refused(t, w.of, 2, 0, ids(3, 1, 2, 1), 9)
	asks(t, w, 2, 2, 2, 1, 2, 1, 2)
}

// TestP906Weights: Order and Parts look at no weights.
func TestP906Weights(t *testing.T) {
	w := newWeb([4]int64{2, 1, 0, -1}, [4]int64{3, 2, 0, api.MaxFar + 1})
	orders(t, w, ids(1, 2, 3), 3, 2, 1)
	hangs(t, w, ids(3, 2, 1), 1, 1, 1)
}

// TestP907Both: arcs count both ways, over any number of others, yet not over nodes that are not given.
func TestP907Both(t *testing.T) {
	w := newWeb([4]int64{1, 9, 0, 0}, [4]int64{8, 9, 0, 0}, [4]int64{8, 7, 0, 0}, [4]int64{6, 7, 0, 0}, [4]int64{2, 3, 0, 0}, [4]int64{3, 2, 0, 0}, [4]int64{4, 4, 0, 0})
	hangs(t, w, ids(6, 7, 8, 9, 1, 2, 3, 4, 5), 1, 1, 1, 1, 1, 2, 2, 4, 5)
	hangs(t, w, ids(6, 7, 9, 1), 6, 6, 1, 1)
	hangs(t, w, ids(6, 8, 6, 1), 6, 8, 6, 1)
}

// TestP907Merge: parts that grew apart and are joined at last.
func TestP907Merge(t *testing.T) {
	w := newWeb([4]int64{5, 6, 0, 0}, [4]int64{6, 7, 0, 0}, [4]int64{1, 2, 0, 0}, [4]int64{2, 3, 0, 0}, [4]int64{8, 3, 0, 0}, [4]int64{8, 7, 0, 0}, [4]int64{10, 9, 0, 0}, [4]int64{10, -3, 0, 0})
	hangs(t, w, ids(8, 7, 6, 5, 3, 2, 1, 9, 10), 1, 1, 1, 1, 1, 1, 1, 9, 9)
	hangs(t, w, ids(-3, 10, 9), -3, -3, -3)
}
