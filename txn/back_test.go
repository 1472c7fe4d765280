package txn_test

import (
	"testing"

	"trellis/api"
	"trellis/txn"
)

// heldBy: the stamps of those for whose end the transaction is held back.
func heldBy(w *world, id int) []int64 { return txn.AwaitedBy(w.m, id) }

// TestP1404Live: one that wounded and is itself undone and begins again is live all the while.
func TestP1404Live(t *testing.T) {
	w := chapter(t)
	w.begin(1, "match (a:n {k: 2}) set a.k = 2")
	w.begin(2, "match (a:n) return a.k; create (:m)")
	w.begin(3, "match (a:m) return a.k; return 1")
	w.step(3, "ran")
	w.step(2, "ran")
	w.step(2, "waits wounded 3")
	w.step(3, "back woken 2")
	w.step(1, "waits wounded 2")
	w.step(2, "back woken 1")
	w.step(3, "idle")
	w.step(1, "ran")
	w.step(1, "committed lsn")
	w.step(3, "idle") // 2 has not begun again
	w.step(2, "ran")
	w.step(3, "idle")
	w.step(2, "ran")
	w.step(2, "committed lsn")
	w.step(3, "ran")
	w.step(3, "ran")
	w.step(3, "committed")
	w.stat(2, api.TxnStat{Id: 2, Stamp: 2, State: api.SCommitted, Done: 2, Backs: 1})
	w.stat(3, api.TxnStat{Id: 3, Stamp: 3, State: api.SCommitted, Done: 2, Backs: 1})
}

// TestP1404All: it is held back till each of those that wounded it has ended, whether by a commit or not.
func TestP1404All(t *testing.T) {
	w := filled(t, "create (:n {k: 1}), (:m {k: 1}), (:o {k: 1})")
	w.begin(1, "match (a:n) set a.k = 2; return 1")
	w.begin(2, "match (a:m) set a.k = 2; abort")
	w.begin(3, "match (a:o) set a.k = 2")
	w.begin(9, "match (a:n), (b:m) return a.k; return 2")
	w.step(9, "ran")
	w.step(1, "waits wounded 9")
	w.step(2, "waits")
	w.step(3, "ran")
	w.step(9, "back woken 2 1")
	same(t, "held back by", heldBy(w, 9), []int64{1, 2})
	w.step(2, "ran")
	w.step(2, "failed 4")
	w.step(9, "idle")
	w.step(1, "ran")
	w.step(1, "ran")
	w.step(9, "idle")
	w.step(1, "committed lsn")
	w.step(9, "ran")
	w.stat(9, api.TxnStat{Id: 9, Stamp: 9, State: api.SReady, Done: 1, Backs: 1})
	w.tables(9, "2")
	w.step(3, "committed lsn")
}

// orphan: 3, with the stamp 30, was wounded by 2, which was itself undone, found nothing to do when it began again, and has ended since.
func orphan(t *testing.T) *world {
	t.Helper()
	w := filled(t, "create (:n {k: 1}), (:m {k: 1})")
	w.begins(1, 10, "match (a:m) delete a", false, api.OK)
	w.begins(2, 20, "match (a:m) return a.k; match (a:m), (b:n) set b.k = 2", false, api.OK)
	w.begins(3, 30, "match (a:n) return a.k; return 3", false, api.OK)
	w.step(3, "ran")
	w.step(2, "ran")
	w.step(2, "waits wounded 3")
	w.step(1, "waits wounded 2")
	w.step(2, "back woken 1")
	w.step(1, "ran")
	w.step(1, "committed lsn")
	w.step(2, "ran")
	w.step(2, "ran")
	w.step(2, "committed")
	w.wounded(3, true)
	return w
}

// TestP1404Ended: a wounder that ended ahead of the undoing holds nobody back: the wounded one begins again at once.
func TestP1404Ended(t *testing.T) {
	for _, forgotten := range []bool{false, true} {
		w := orphan(t)
		if forgotten {
			w.m.Forget(2)
		}
		w.step(3, "back")
		same(t, "held back by", heldBy(w, 3), []int64{})
		w.wounded(3, true)
		w.stat(3, api.TxnStat{Id: 3, Stamp: 30, State: api.SHeldBack, Backs: 1})
		w.step(3, "ran")
		w.wounded(3, false)
		w.tables(3, "1")
	}
}

// TestP1404SameNumber: where an older one began under the number of a wounder that ended ahead of the undoing, that one holds it back. A younger one does not.
func TestP1404SameNumber(t *testing.T) {
	for _, x := range []struct {
		stamp int64
		by    []int64
		want  string
	}{{5, []int64{5}, "idle"}, {20, []int64{20}, "idle"}, {29, []int64{29}, "idle"}, {31, nil, "ran"}, {99, nil, "ran"}} {
		w := orphan(t)
		w.m.Forget(2)
		w.begins(2, x.stamp, "return 1", false, api.OK)
		w.step(3, "back")
		same(t, "held back by", heldBy(w, 3), x.by)
		w.step(3, x.want)
		w.step(2, "ran")
		w.step(3, map[string]string{"idle": "idle", "ran": "ran"}[x.want])
		w.step(2, "committed")
		w.m.Forget(2)
		w.begins(2, 1, "return 1", false, api.OK) // what ended stays ended
		w.step(3, map[string]string{"idle": "ran", "ran": "committed"}[x.want])
	}
}

// TestP1404SameNumberEnded: one that began under the number and has ended, too, holds nobody back.
func TestP1404SameNumberEnded(t *testing.T) {
	w := orphan(t)
	w.m.Forget(2)
	w.begins(2, 5, "abort", false, api.OK)
	w.step(2, "failed 4")
	w.step(3, "back")
	w.step(3, "ran")
}

// TestP1404StaysEnded: one that has ended stays ended, also if its number, or its stamp, begins again.
func TestP1404StaysEnded(t *testing.T) {
	w := chapter(t)
	w.begins(1, 10, "match (a:n) set a.k = 2", false, api.OK)
	w.begins(2, 20, "match (a:n) return a.k", false, api.OK)
	w.step(2, "ran")
	w.step(1, "waits wounded 2")
	w.step(2, "back woken 1")
	w.step(1, "ran")
	w.step(2, "idle")
	w.step(1, "committed lsn")
	w.m.Forget(1)
	w.begins(1, 10, "return 1", false, api.OK)
	w.step(2, "ran")
	w.tables(2, "2; 2")
}

// TestP1404Younger: those that are held back begin again with their old stamps.
func TestP1404Younger(t *testing.T) {
	w := chapter(t)
	w.begin(1, "match (a:n) set a.k = 2")
	w.begin(2, "match (a:n) return a.k; return 1")
	w.step(2, "ran")
	w.step(1, "waits wounded 2")
	w.step(2, "back woken 1")
	w.step(1, "ran")
	w.step(1, "committed lsn")
	w.begin(3, "match (a:n) set a.k = 4")
	w.step(3, "ran")
	w.step(2, "waits wounded 3") // as the older one
	w.stat(2, api.TxnStat{Id: 2, Stamp: 2, State: api.SWaiting, Backs: 1})
	w.step(3, "back woken 2")
	w.step(2, "ran")
	w.tables(2, "2; 2")
}

// TestP1404Again: it may be wounded again, by another one.
func TestP1404Again(t *testing.T) {
	w := chapter(t)
	w.begin(9, "match (a:n) return a.k; return 1")
	for id := 8; id >= 5; id-- {
		w.step(9, "ran")
		w.begin(id, "match (a:n) set a.k = a.k + 1")
		w.step(id, "waits wounded 9")
		w.step(9, "back woken "+string(rune('0'+id)))
		w.stat(9, api.TxnStat{Id: 9, Stamp: 9, State: api.SHeldBack, Backs: 9 - id})
		w.step(id, "ran")
		w.step(id, "committed lsn")
	}
	w.step(9, "ran")
	w.tables(9, "5; 6")
}
