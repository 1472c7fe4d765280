package txn_test

import (
	"fmt"
	"testing"

	"trellis/api"
	"trellis/records"
	"trellis/txn"
)

// open: the store anew, with a new manager.
func (w *world) open() {
	w.t.Helper()
	s, code := records.Open(w.d)
	if code != api.OK {
		w.t.Fatalf("Open: %d", code)
	}
	w.s, w.m = s, txn.New(s)
}

// aside: all that a manager tells without a step.
func (w *world) aside() string {
	out := fmt.Sprint(w.m.Live(), w.m.Waits())
	for id := range 12 {
		stat, code := w.m.Stat(id)
		list, _ := w.m.Tables(id)
		is, _ := w.m.Wounded(id)
		out += fmt.Sprint("; ", stat, code, shown(list), is, w.held(id))
	}
	return out
}

// crowd: transactions in all states: 1 ready for its commit, 2 waits, 3 held back, 4 committed, 5 failed, 6 wounded, 7 has not had a step.
func crowd(t *testing.T) *world {
	w := filled(t, "create (:n {k: 1})-[:r]->(:n {k: 2}), (:m {k: 1}), (:o {k: 1})")
	w.begin(1, "match (a:n) set a.k = 9 return a.k")
	w.begin(2, "match (a:n) return a.k")
	w.begin(3, "match (a:n) set a.k = 5")
	w.begin(4, "match (a:o) return a.k")
	w.begin(5, "abort")
	w.begin(6, "match (a:m) set a.k = 2")
	w.begin(7, "return 7")
	w.step(3, "ran")
	w.step(1, "waits wounded 3")
	w.step(3, "back woken 1")
	w.step(1, "ran")
	w.step(2, "waits")
	w.step(4, "ran")
	w.step(4, "committed")
	w.step(5, "failed 4")
	w.step(6, "ran")
	w.begins(8, 5, "match (a:m) return a.k", false, api.OK)
	w.step(8, "waits wounded 6")
	return w
}

// TestP1405Commit: the power goes at each operation of a commit: ErrPower and nothing else; all that is told is as ahead of the step, and no step goes any more.
func TestP1405Commit(t *testing.T) {
	for cut := 0; ; cut++ {
		w := crowd(t)
		before := w.aside()
		was := w.graph()
		w.d.Cut(cut)
		s, code := w.m.Step(1)
		if code == api.OK {
			if cut < 2 {
				t.Errorf("a commit with %d operations", cut)
			}
			return
		}
		same(t, "the commit", []any{s, code}, []any{api.Step{}, api.ErrPower})
		same(t, "what is told", w.aside(), before)
		for _, id := range []int{1, 2, 3, 6, 7, 8} {
			w.refused(id, api.ErrPower)
		}
		for _, id := range []int{4, 5} {
			w.refused(id, api.ErrDone)
		}
		w.refused(9, api.ErrNoTxn)
		same(t, "what is told behind that", w.aside(), before)
		same(t, "Forget", []any{w.m.Forget(4), w.m.Forget(1), w.m.Forget(3), w.m.Forget(9)}, []any{api.OK, api.ErrInside, api.ErrInside, api.ErrNoTxn})
		_, code = w.m.Stat(4)
		same(t, "Stat of the forgotten one", code, api.ErrNoTxn)
		keep := make([]bool, len(w.d.Pending()))
		for i := range keep {
			keep[i] = cut%2 == 0
		}
		w.d.Crash(keep)
		w.open()
		nine := was
		nine.Nodes = append([]api.Node(nil), was.Nodes...)
		for i := range 2 {
			nine.Nodes[i].Props = []api.Prop{{Key: "k", Val: api.Val{Kind: api.KInt, A: 9}}}
		}
		if got := fmt.Sprint(w.graph()); got != fmt.Sprint(was) && got != fmt.Sprint(nine) {
			t.Errorf("behind the crash: %s", got)
		}
	}
}

// TestP1402Dead: a store that died by another's call; ErrPower comes behind ErrNoTxn and ErrDone.
func TestP1402Dead(t *testing.T) {
	w := crowd(t)
	before := w.aside()
	w.d.Cut(0)
	w.step(7, "ran") // the power is still there
	w.step(7, "committed")
	if _, code := w.s.Checkpoint(api.MaxPages); code != api.ErrPower {
		t.Fatalf("Checkpoint: %d", code)
	}
	for _, id := range []int{1, 2, 3, 6, 8} {
		w.refused(id, api.ErrPower)
	}
	w.refused(7, api.ErrDone)
	w.refused(9, api.ErrNoTxn)
	w.begins(10, 10, "return 1", false, api.OK) // nothing is read by that
	w.refused(10, api.ErrPower)
	if after := w.aside(); after == before {
		t.Error("7 has ended and 10 begun, and nothing of it is told")
	}
}

// TestP1402DeadForGood: a manager that is dead stays so.
func TestP1402DeadForGood(t *testing.T) {
	w := chapter(t)
	w.begin(1, "create (:m)")
	w.begin(2, "return 1")
	w.step(1, "ran")
	w.d.Cut(0)
	w.refused(1, api.ErrPower)
	w.d.Crash(nil)
	w.refused(1, api.ErrPower)
	w.refused(2, api.ErrPower)
	w.open()
	w.begin(2, "return 1")
	w.step(2, "ran")
}

// TestP1405Nothing: a commit that writes nothing needs no power, as long as the store does not know that it is gone.
func TestP1405Nothing(t *testing.T) {
	w := chapter(t)
	w.begin(1, "match (a:n) return a.k")
	w.d.Cut(0)
	w.step(1, "ran")
	w.step(1, "committed")
}

// TestP1405Other: another manager, of another store, is not concerned.
func TestP1405Other(t *testing.T) {
	w, x := chapter(t), chapter(t)
	w.begin(1, "create (:m)")
	w.step(1, "ran")
	w.d.Cut(0)
	w.refused(1, api.ErrPower)
	x.begin(1, "create (:m)")
	x.step(1, "ran")
	x.step(1, "committed lsn")
}
