package paths_test

import (
	"testing"

	"trellis/api"
)

// The chapter's examples, by their numbers.

func TestP903Example1(t *testing.T) {
	w := chapter()
	goes(t, w, 1, 4, 3, ids(1, 3, 2, 4), ids(12, 13, 14))
	asks(t, w, 1, 3, 2)
	fails(t, w, 1, 5, api.OK)
	asks(t, w, 1, 3, 2, 4)
}

func TestP903Example2(t *testing.T) {
	w := chapter()
	w.add(1, 2, 17, 3)
	goes(t, w, 1, 4, 3, ids(1, 2, 4), ids(17, 14))
}

func TestP904Example3(t *testing.T) {
	w := chapter()
	hops(t, w, 1, 4, 2, true, api.OK)
	asks(t, w, 1, 2, 3)
	hops(t, w, 1, 1, 0, true, api.OK)
	asks(t, w)
	hops(t, w, 5, 1, 0, false, api.OK)
	asks(t, w, 5, 6)
}

func TestP905Example4(t *testing.T) {
	w := chapter()
	reaches(t, w, 1, 0, 1)
	asks(t, w)
	reaches(t, w, 1, 1, 1, 2, 3)
	asks(t, w, 1)
	reaches(t, w, 1, 9, 1, 2, 3, 4)
	asks(t, w, 1, 2, 3, 4)
}

func TestP906Example5(t *testing.T) {
	w := chapter()
	rings(t, w, 3, 2, 4, 1)
	asks(t, w, 1, 2, 3, 4)
	orders(t, w, ids(4, 2, 3, 3), 3, 2, 4)
	asks(t, w, 2, 3, 4)
	orders(t, w, ids(6, 5), 5, 6)
	asks(t, w, 5, 6)
}

func TestP907Example6(t *testing.T) {
	w := chapter()
	hangs(t, w, ids(6, 1, 3, 5, 6), 5, 1, 1, 5, 5)
	asks(t, w, 1, 3, 5, 6)
	hangs(t, w, ids(2, 3), 2, 2)
	hangs(t, w, ids(1, 4), 1, 1)
}

func TestP903Example7(t *testing.T) {
	w := chapter()
	w.add(3, 9, 17, -1)
	fails(t, w, 1, 4, api.ErrWeight)
	w = chapter()
	w.add(1, 9, 17, 1099511627777)
	fails(t, w, 1, 4, api.ErrFar)
}
