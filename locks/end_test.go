package locks_test

import (
	"fmt"
	"math"
	"testing"

	"trellis/api"
	"trellis/locks"
)

// TestP805Faults: who is not live cannot end.
func TestP805Faults(t *testing.T) {
	x := made(t, 2)
	gets(t, x, 1, n7, api.MX)
	waits(t, x, 2, n7, api.MX)
	ends(t, x, 2)
	before := told(x)
	for _, txn := range []int{2, 0, -1, 3, math.MaxInt, math.MinInt} {
		granted, hurt, code := x.End(txn)
		same(t, fmt.Sprintf("End(%d)", txn), []any{granted, hurt, code}, []any{[]int{}, []int{}, api.ErrTxn})
		same(t, "the table", told(x), before)
	}
}

// TestP805Gone: what ended holds nothing, asks for nothing, and is known to no call.
func TestP805Gone(t *testing.T) {
	x := made(t, 2)
	gets(t, x, 1, graph, api.MS)
	gets(t, x, 1, la, api.MX)
	gets(t, x, 2, graph, api.MIS)
	waits(t, x, 1, graph, api.MX, 2)
	ends(t, x, 1)
	same(t, "Live()", x.Live(), list(2))
	same(t, "the holders", []any{x.Holders(graph), x.Holders(la), x.Queue(graph)}, []any{list(held(2, api.MIS)), []int{}, []int{}})
	_, code := x.Mode(1, graph)
	wants(t, "Mode", code, api.ErrTxn)
	refuses(t, x, 1, graph, api.MIS, api.ErrTxn)
	gets(t, x, 2, graph, api.MX)
	gets(t, x, 2, la, api.MX)
	ends(t, x, 2)
	same(t, "an empty table", told(x), told(locks.New()))
}

// TestP805Order: the grants stand in the order of resources: by level, by label, by id; on one resource from the front.
func TestP805Order(t *testing.T) {
	rs := []api.Res{graph, la, label("a0"), label("aa"), label("ab"), label("b"), node(1), node(2), node(10), node(math.MaxInt64)}
	for _, shift := range []int{0, 3, 7} {
		x := made(t, 1+2*len(rs))
		var want []int
		for i := range rs {
			i = (3*i + shift) % len(rs)
			gets(t, x, 1, rs[i], api.MX)
		}
		for i := range rs {
			i = (7*i + shift) % len(rs)
			waits(t, x, 2+i, rs[i], api.MIS)
		}
		for i := range rs {
			waits(t, x, 2+len(rs)+i, rs[i], api.MIX)
			want = append(want, 2+i, 2+len(rs)+i)
		}
		ends(t, x, 1, want...)
		for i, r := range rs {
			same(t, "Holders", x.Holders(r), list(held(2+i, api.MIS), held(2+len(rs)+i, api.MIX)))
			queues(t, x, r)
		}
	}
}

// TestP805Some: what does not fit, or stands behind one that does not fit it, goes on waiting.
func TestP805Some(t *testing.T) {
	x := made(t, 6)
	gets(t, x, 1, n7, api.MX)
	waits(t, x, 2, n7, api.MS)
	waits(t, x, 3, n7, api.MIX)
	waits(t, x, 4, n7, api.MS)
	waits(t, x, 5, n7, api.MIS)
	waits(t, x, 6, n7, api.MX)
	ends(t, x, 1, 2, 5)
	queues(t, x, n7, held(3, api.MIX), held(4, api.MS), held(6, api.MX))
	awaits(t, x, n7, [2]int{3, 2}, [2]int{4, 3}, [2]int{6, 2}, [2]int{6, 3}, [2]int{6, 4}, [2]int{6, 5})
	ends(t, x, 2, 3)
	ends(t, x, 3, 4)
	ends(t, x, 5)
	ends(t, x, 4, 6)
}

// TestP805Waiter: who ends while it waits gives way to those behind it.
func TestP805Waiter(t *testing.T) {
	x := made(t, 4)
	gets(t, x, 1, n7, api.MS)
	waits(t, x, 2, n7, api.MX)
	waits(t, x, 3, n7, api.MS)
	waits(t, x, 4, n7, api.MIS)
	ends(t, x, 2, 3, 4)
	same(t, "Holders", x.Holders(n7), list(held(1, api.MS), held(3, api.MS), held(4, api.MIS)))
}

// TestP805WaitingUpgrade: who ends while an upgrade of it waits gives up both.
func TestP805WaitingUpgrade(t *testing.T) {
	x := made(t, 3)
	gets(t, x, 1, n7, api.MS)
	gets(t, x, 2, n7, api.MS)
	waits(t, x, 2, n7, api.MX)
	waits(t, x, 3, n7, api.MS)
	ends(t, x, 2, 3)
	same(t, "Holders", x.Holders(n7), list(held(1, api.MS), held(3, api.MS)))
	queues(t, x, n7)
}

// TestP805Upgrade: a granted upgrade takes the place of what was held; it is granted ahead of what waits longer.
func TestP805Upgrade(t *testing.T) {
	x := made(t, 3)
	gets(t, x, 1, n7, api.MIX)
	gets(t, x, 2, n7, api.MIX)
	waits(t, x, 3, n7, api.MX)
	waits(t, x, 2, n7, api.MS)
	same(t, "the goal", x.Queue(n7), list(held(2, api.MSIX), held(3, api.MX)))
	ends(t, x, 1, 2)
	holds(t, x, 2, n7, api.MSIX)
	ends(t, x, 2, 3)
}

// TestP805Wounded: a wounded one's request is granted like any other, and the wound stays.
func TestP805Wounded(t *testing.T) {
	x := made(t, 3)
	gets(t, x, 3, la, api.MX)
	gets(t, x, 2, n7, api.MX)
	waits(t, x, 2, la, api.MS, 3)
	waits(t, x, 1, n7, api.MS, 2)
	ends(t, x, 3, 2)
	holds(t, x, 2, la, api.MS)
	hurt(t, x, 2, 1)
	gets(t, x, 2, la, api.MX)
	ends(t, x, 2, 1)
}

// TestP805Apart: an End touches no resource but those of the one that ends.
func TestP805Apart(t *testing.T) {
	x := made(t, 5)
	gets(t, x, 1, n7, api.MX)
	gets(t, x, 2, la, api.MX)
	waits(t, x, 3, n7, api.MS)
	waits(t, x, 4, la, api.MS)
	gets(t, x, 5, graph, api.MX)
	ends(t, x, 5)
	ends(t, x, 2, 4)
	queues(t, x, n7, held(3, api.MS))
	ends(t, x, 1, 3)
}
