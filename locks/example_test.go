package locks_test

import (
	"testing"

	"trellis/api"
	"trellis/locks"
)

// TestP804Examples: those of the chapter, by their numbers.
func TestP804Examples(t *testing.T) {
	for i, example := range []func(*testing.T, *locks.Table){upgradesMeet, sharedBehindOne, joined, aheadOfBoth, woundedWaitsForNobody, grantedAndWounded, faults, queuedAlready} {
		t.Run(string(rune('1'+i)), func(t *testing.T) { example(t, made(t, 3)) })
	}
}

func upgradesMeet(t *testing.T, x *locks.Table) {
	gets(t, x, 1, n7, api.MS)
	gets(t, x, 2, n7, api.MS)
	waits(t, x, 2, n7, api.MX)
	waits(t, x, 1, n7, api.MX, 2)
	awaits(t, x, n7, [2]int{1, 2})
	queues(t, x, n7, held(2, api.MX), held(1, api.MX))
	ends(t, x, 2, 1)
}

func sharedBehindOne(t *testing.T, x *locks.Table) {
	gets(t, x, 2, la, api.MX)
	waits(t, x, 3, la, api.MS)
	waits(t, x, 1, la, api.MS, 2)
	awaits(t, x, la, [2]int{1, 2}, [2]int{3, 2})
	ends(t, x, 2, 3, 1)
}

func joined(t *testing.T, x *locks.Table) {
	gets(t, x, 1, graph, api.MIX)
	gets(t, x, 1, graph, api.MS)
	holds(t, x, 1, graph, api.MSIX)
	gets(t, x, 2, graph, api.MIS)
	waits(t, x, 2, graph, api.MIX)
}

func aheadOfBoth(t *testing.T, x *locks.Table) {
	gets(t, x, 1, n7, api.MS)
	waits(t, x, 2, n7, api.MX)
	waits(t, x, 3, n7, api.MS)
	awaits(t, x, n7, [2]int{2, 1}, [2]int{3, 2})
	gets(t, x, 1, n7, api.MX)
	awaits(t, x, n7, [2]int{2, 1}, [2]int{3, 1}, [2]int{3, 2})
}

func woundedWaitsForNobody(t *testing.T, x *locks.Table) {
	gets(t, x, 3, n7, api.MIS)
	waits(t, x, 2, n7, api.MX, 3)
	waits(t, x, 1, n7, api.MIS, 2)
	awaits(t, x, n7, [2]int{1, 2})
}

func grantedAndWounded(t *testing.T, x *locks.Table) {
	gets(t, x, 2, graph, api.MIX)
	gets(t, x, 3, graph, api.MIS)
	waits(t, x, 1, graph, api.MS, 2)
	gets(t, x, 3, graph, api.MIX, 3)
	hurt(t, x, 3, 1)
}

func faults(t *testing.T, _ *locks.Table) {
	x := made(t, 1)
	wants(t, "Begin(1, 11)", x.Begin(1, 11), api.ErrTxn)
	wants(t, "Begin(2, 10)", x.Begin(2, 10), api.ErrTxn)
	wants(t, "Begin(0, 1)", x.Begin(0, 1), api.ErrArg)
	_, _, code := x.End(9)
	wants(t, "End(9)", code, api.ErrTxn)
	refuses(t, x, 1, node(0), api.MS, api.ErrRes)
	refuses(t, x, 1, n7, 6, api.ErrMode)
	same(t, "the joins", list(locks.Joins(2, 3), locks.Joins(0, 3), locks.Joins(6, 1)), list(4, 3, 0))
}

func queuedAlready(t *testing.T, x *locks.Table) {
	gets(t, x, 1, n7, api.MX)
	waits(t, x, 2, n7, api.MS)
	refuses(t, x, 2, graph, api.MIS, api.ErrQueued)
}
