package txn_test

import (
	"testing"

	"trellis/api"
)

// The chapter's examples, by their numbers.

func TestP1402Example1(t *testing.T) {
	w := chapter(t)
	w.begins(5, 1, "match (a:n) return a.k", false, api.OK)
	w.step(5, "ran")
	w.tables(5, "1; 2")
	w.holds(5, "graph MIS, n MS")
	w.step(5, "committed")
}

func TestP1402Example2(t *testing.T) {
	w := chapter(t)
	w.begins(5, 1, "match (a:n) set a.k = 9", false, api.OK)
	w.begins(6, 2, "match (a:n) return a.k", false, api.OK)
	w.step(5, "ran")
	w.holds(5, "graph MIX, n MSIX, 1 MX, 2 MX")
	w.step(6, "waits")
	w.waits(6, 5)
	w.step(6, "idle")
	w.step(5, "committed lsn woken 6")
	w.step(6, "ran")
	w.tables(6, "9; 9")
}

func TestP1402Example3(t *testing.T) {
	w := chapter(t)
	w.begins(5, 1, "match (a:n) set a.k = 9", false, api.OK)
	w.begins(6, 2, "match (a:n) return a.k", false, api.OK)
	w.step(6, "ran")
	w.step(5, "waits wounded 6")
	w.step(6, "back woken 5")
	w.step(6, "idle")
	w.step(5, "ran")
	w.step(5, "committed lsn")
	w.step(6, "ran")
	w.tables(6, "9; 9")
	w.stat(6, api.TxnStat{Id: 6, Stamp: 2, State: api.SReady, Done: 1, Backs: 1})
}

func TestP1402Example4(t *testing.T) {
	w := chapter(t)
	unchanged := w.keeps()
	w.begins(7, 3, "create (a:m); abort", false, api.OK)
	w.step(7, "ran")
	w.step(7, "failed 4")
	unchanged()
	w.refused(7, api.ErrDone)
	w.begins(7, 9, "return 1", false, api.ErrTxn)
	same(t, "Forget", w.m.Forget(7), api.OK)
	w.begins(7, 9, "return 1", false, api.OK)
}

func TestP1406Example5(t *testing.T) {
	w := chapter(t)
	w.begins(8, 4, "match (a:n {k: 1})-[e:r]->(b) return b.k", false, api.OK)
	w.step(8, "ran")
	w.tables(8, "2")
	w.holds(8, "graph MIS, n MS")
}

func TestP1401Example6(t *testing.T) {
	w := chapter(t)
	w.begins(8, 4, "return 1", false, api.OK)
	w.begins(9, 9, "", false, api.ErrIdle)
	w.begins(9, 0, "return 1", false, api.ErrArg)
	w.begins(9, 4, "return 1", false, api.ErrTxn)
	w.refused(77, api.ErrNoTxn)
	same(t, "Forget", w.m.Forget(8), api.ErrInside)
}
