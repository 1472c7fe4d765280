package locks_test

import (
	"math"
	"testing"

	"trellis/api"
)

// TestP806Faults: who is not live, and then what is no resource.
func TestP806Faults(t *testing.T) {
	x := made(t, 1)
	gets(t, x, 1, n7, api.MX)
	for _, txn := range []int{0, -1, 2, math.MaxInt, math.MinInt} {
		mode, code := x.Mode(txn, n7)
		same(t, "Mode", []any{mode, code}, []any{0, api.ErrTxn})
		mode, code = x.Mode(txn, node(0))
		same(t, "Mode", []any{mode, code}, []any{0, api.ErrTxn})
		r, goal, code := x.Waiting(txn)
		same(t, "Waiting", []any{r, goal, code}, []any{api.Res{}, 0, api.ErrTxn})
		by, code := x.Wounders(txn)
		same(t, "Wounders", []any{by, code}, []any{[]int{}, api.ErrTxn})
		is, code := x.Wounded(txn)
		same(t, "Wounded", []any{is, code}, []any{false, api.ErrTxn})
	}
	for _, r := range noRes {
		mode, code := x.Mode(1, r)
		same(t, "Mode", []any{mode, code}, []any{0, api.ErrRes})
	}
}

// TestP806Waiting: the resource and the goal, which is more than was asked for where something is held.
func TestP806Waiting(t *testing.T) {
	x := made(t, 3)
	gets(t, x, 1, la, api.MIX)
	gets(t, x, 2, la, api.MIX)
	waits(t, x, 2, la, api.MS)
	r, goal, code := x.Waiting(2)
	same(t, "Waiting(2)", []any{r, goal, code}, []any{la, api.MSIX, api.OK})
	holds(t, x, 2, la, api.MIX)
	waits(t, x, 3, la, api.MS)
	r, goal, code = x.Waiting(3)
	same(t, "Waiting(3)", []any{r, goal, code}, []any{la, api.MS, api.OK})
	holds(t, x, 3, la, 0)
	ends(t, x, 1, 2)
	r, goal, code = x.Waiting(2)
	same(t, "Waiting(2)", []any{r, goal, code}, []any{api.Res{}, 0, api.OK})
	holds(t, x, 2, la, api.MSIX)
}

// TestP806Wounders: all of them, rising, also when they have got what they wanted, or have ended.
func TestP806Wounders(t *testing.T) {
	x := made(t, 12)
	gets(t, x, 12, n7, api.MX)
	for _, txn := range []int{10, 2, 11, 9, 1} {
		gets(t, x, txn, graph, api.MIS)
	}
	waits(t, x, 10, n7, api.MIS, 12)
	waits(t, x, 2, n7, api.MIS)
	waits(t, x, 11, n7, api.MIS)
	waits(t, x, 9, n7, api.MIS)
	hurt(t, x, 12, 2, 9, 10, 11)
	ends(t, x, 9)
	ends(t, x, 2)
	hurt(t, x, 12, 2, 9, 10, 11)
	waits(t, x, 1, n7, api.MIS)
	hurt(t, x, 12, 1, 2, 9, 10, 11)
	begins(t, x, 2, 990)
	hurt(t, x, 12, 1, 2, 9, 10, 11)
}

// TestP807Holders: who holds, rising by number, and the queue from its front.
func TestP807Holders(t *testing.T) {
	x := made(t, 12)
	for _, txn := range []int{11, 3, 12, 1, 7} {
		gets(t, x, txn, graph, api.MIS)
	}
	gets(t, x, 7, graph, api.MIX)
	gets(t, x, 3, graph, api.MIX)
	waits(t, x, 9, graph, api.MS)
	waits(t, x, 2, graph, api.MX, 3, 7, 9, 11, 12)
	queues(t, x, graph, held(9, api.MS), held(2, api.MX))
	same(t, "Holders", x.Holders(graph), list(held(1, api.MIS), held(3, api.MIX), held(7, api.MIX), held(11, api.MIS), held(12, api.MIS)))
}

// TestP807None: nothing is told of what nobody holds, and of what is no resource.
func TestP807None(t *testing.T) {
	x := made(t, 2)
	gets(t, x, 1, n7, api.MX)
	waits(t, x, 2, n7, api.MX)
	for _, r := range append(list(graph, la, node(8)), noRes...) {
		if h, q := x.Holders(r), x.Queue(r); len(h) != 0 || len(q) != 0 {
			t.Errorf("of %+v Holders = %v, Queue = %v, want none", r, h, q)
		}
	}
}

// TestP807Live: the numbers, rising.
func TestP807Live(t *testing.T) {
	x := made(t, 0)
	for i, txn := range []int{30, 4, 100, 1, 22} {
		begins(t, x, txn, int64(1+i))
	}
	same(t, "Live()", x.Live(), list(1, 4, 22, 30, 100))
	ends(t, x, 22)
	same(t, "Live()", x.Live(), list(1, 4, 30, 100))
}

// TestP808Once: who stands in the way twice, by what it holds and by what it asks for, is told once; by From, then by To.
func TestP808Once(t *testing.T) {
	x := made(t, 12)
	gets(t, x, 1, n7, api.MS)
	gets(t, x, 2, n7, api.MS)
	gets(t, x, 10, la, api.MX)
	waits(t, x, 2, n7, api.MX)
	waits(t, x, 12, n7, api.MX)
	waits(t, x, 11, la, api.MIS)
	waits(t, x, 3, n7, api.MSIX, 12)
	same(t, "Waits()", x.Waits(), list(
		api.Wait{From: 2, To: 1, Res: n7},
		api.Wait{From: 3, To: 1, Res: n7}, api.Wait{From: 3, To: 2, Res: n7}, api.Wait{From: 3, To: 12, Res: n7},
		api.Wait{From: 11, To: 10, Res: la},
	))
}

// TestP808Wounded: a wounded one waits for nobody, but others for it.
func TestP808Wounded(t *testing.T) {
	x := made(t, 4)
	gets(t, x, 3, n7, api.MX)
	gets(t, x, 1, la, api.MX)
	waits(t, x, 3, la, api.MS)
	awaits(t, x, la, [2]int{3, 1})
	waits(t, x, 2, n7, api.MS, 3)
	awaits(t, x, n7, [2]int{2, 3})
	waits(t, x, 4, la, api.MIX)
	same(t, "Waits()", x.Waits(), list(api.Wait{From: 2, To: 3, Res: n7}, api.Wait{From: 4, To: 1, Res: la}, api.Wait{From: 4, To: 3, Res: la}))
}
