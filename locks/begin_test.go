package locks_test

import (
	"fmt"
	"math"
	"testing"

	"trellis/api"
	"trellis/locks"
)

// TestP803New: a new table has nothing.
func TestP803New(t *testing.T) {
	x := locks.New()
	if x == nil {
		t.Fatal("New() = nil")
	}
	same(t, "a new table", told(x), newBook().told())
}

// TestP803Begin: what begins is live, holds nothing, waits for nothing, and has no wounder.
func TestP803Begin(t *testing.T) {
	x := locks.New()
	begins(t, x, 5, 1)
	begins(t, x, 1, math.MaxInt64)
	begins(t, x, math.MaxInt, 5)
	same(t, "Live()", x.Live(), list(1, 5, math.MaxInt))
	for _, txn := range x.Live() {
		holds(t, x, txn, graph, 0)
		hurt(t, x, txn)
		r, goal, code := x.Waiting(txn)
		same(t, "Waiting", []any{r, goal, code}, []any{api.Res{}, 0, api.OK})
	}
}

// TestP803Faults: numbers and stamps below 1, and those that a live one has; of several faults the one that is named first.
func TestP803Faults(t *testing.T) {
	x := made(t, 2)
	gets(t, x, 1, n7, api.MX)
	waits(t, x, 2, n7, api.MX)
	before := told(x)
	for _, c := range []struct {
		txn   int
		stamp int64
		want  api.Errno
	}{
		{0, 5, api.ErrArg}, {-1, 5, api.ErrArg}, {math.MinInt, 5, api.ErrArg}, {3, 0, api.ErrArg}, {3, -1, api.ErrArg}, {3, math.MinInt64, api.ErrArg}, {0, 0, api.ErrArg},
		{1, 0, api.ErrArg}, {0, 10, api.ErrArg}, {1, 5, api.ErrTxn}, {2, 5, api.ErrTxn}, {3, 10, api.ErrTxn}, {3, 20, api.ErrTxn}, {1, 10, api.ErrTxn}, {2, 10, api.ErrTxn},
	} {
		wants(t, fmt.Sprintf("Begin(%d, %d)", c.txn, c.stamp), x.Begin(c.txn, c.stamp), c.want)
		same(t, "the table", told(x), before)
	}
}

// TestP803Anew: numbers and stamps of those that have ended are free; what begins with one of them has nothing of what was.
func TestP803Anew(t *testing.T) {
	x := made(t, 3)
	gets(t, x, 1, la, api.MS)
	gets(t, x, 2, n7, api.MX)
	gets(t, x, 2, la, api.MS)
	waits(t, x, 2, la, api.MX)
	waits(t, x, 1, n7, api.MS, 2)
	hurt(t, x, 2, 1)
	ends(t, x, 2, 1)
	same(t, "Live()", x.Live(), list(1, 3))
	begins(t, x, 4, 20)
	wants(t, "Begin with a stamp that is taken", x.Begin(2, 20), api.ErrTxn)
	begins(t, x, 2, 5)
	hurt(t, x, 2)
	holds(t, x, 2, n7, 0)
	holds(t, x, 2, la, 0)
	r, goal, code := x.Waiting(2)
	same(t, "Waiting(2)", []any{r, goal, code}, []any{api.Res{}, 0, api.OK})
	waits(t, x, 2, n7, api.MX, 1) // it is the oldest one now
	awaits(t, x, n7, [2]int{2, 1})
}
