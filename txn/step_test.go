package txn_test

import (
	"fmt"
	"testing"

	"trellis/api"
	"trellis/txn"
)

// TestP1402Errors: a number that is not known, one that has ended.
func TestP1402Errors(t *testing.T) {
	w := chapter(t)
	w.begin(1, "return 1")
	w.begin(2, "abort")
	for _, id := range []int{0, -1, 3, 1 << 40} {
		w.refused(id, api.ErrNoTxn)
	}
	w.step(1, "ran")
	w.step(1, "committed")
	w.step(2, "failed 4")
	w.refused(1, api.ErrDone)
	w.refused(2, api.ErrDone)
	w.m.Forget(1)
	w.refused(1, api.ErrNoTxn)
}

// TestP1402Queries: one query a step, each over what those ahead of it changed; then the commit.
func TestP1402Queries(t *testing.T) {
	w := chapter(t)
	unchanged := w.keeps()
	w.begin(1, "match (a:n) set a.k = a.k + 10; match (a:n) return a.k; create (a:m); match (a:m) return a; match (a:n {k: 11}) detach delete a return a")
	w.step(1, "ran")
	w.tables(1, "")
	w.step(1, "ran")
	w.tables(1, " | 11; 12")
	w.step(1, "ran")
	w.step(1, "ran")
	w.tables(1, " | 11; 12 |  | (-1)")
	w.stat(1, api.TxnStat{Id: 1, Stamp: 1, State: api.SReady, Done: 4})
	w.step(1, "ran")
	unchanged()
	w.stat(1, api.TxnStat{Id: 1, Stamp: 1, State: api.SReady, Done: 5})
	w.step(1, "committed lsn")
	w.stat(1, api.TxnStat{Id: 1, Stamp: 1, State: api.SCommitted, Done: 5})
	w.tables(1, " | 11; 12 |  | (-1) | (1)")
	same(t, "the graph", fmt.Sprint(w.graph()), "{[{1 m []} {2 n [{k {2 12 0 }}]}] []}")
}

// TestP1402Lasts: a commit lasts when it is told.
func TestP1402Lasts(t *testing.T) {
	w := chapter(t)
	w.begin(1, "create (:m)")
	w.step(1, "ran")
	w.step(1, "committed lsn")
	was := w.graph()
	w.d.Crash(nil)
	w.open()
	same(t, "behind a crash", w.graph(), was)
}

// TestP1402Waits: a query that must wait leaves nothing behind but the locks that it got; behind the grant it runs from its beginning.
func TestP1402Waits(t *testing.T) {
	w := chapter(t)
	w.begin(1, "match (a:m) return a; match (a:n {k: 2}) set a.k = 7")
	w.begin(2, "create (:o {k: 1}); create (:o {k: 2}) create (:m); match (a:o) return a.k")
	w.step(1, "ran")
	w.step(2, "ran")
	w.step(2, "waits")
	w.stat(2, api.TxnStat{Id: 2, Stamp: 2, State: api.SWaiting, Done: 1})
	w.holds(2, "graph MIX, o MIX")
	w.waits(2, 1)
	for range 3 {
		w.step(2, "idle")
		w.waits(2, 1)
	}
	w.step(1, "ran")
	w.step(2, "idle")
	w.step(1, "committed lsn woken 2")
	w.stat(2, api.TxnStat{Id: 2, Stamp: 2, State: api.SReady, Done: 1})
	w.step(2, "ran")
	w.step(2, "ran")
	w.tables(2, " |  | 1; 2") // the second query's first node is there once
	w.step(2, "committed lsn")
	w.labels("m 1, n 2, o 2")
}

// TestP1402Sees: what it waited for is read anew behind the grant.
func TestP1402Sees(t *testing.T) {
	w := chapter(t)
	w.begin(1, "match (a:n {k: 1}) set a.k = 5; match (a:n {k: 2}) delete a")
	w.begin(2, "match (a:m), (b:n) return b.k; match (a:n) return count(*)")
	w.done("create (:m)")
	w.step(1, "ran")
	w.step(2, "waits")
	w.step(1, "failed 72 woken 2") // the edge is in the way
	w.step(2, "ran")
	w.tables(2, "1; 2")
}

// TestP1402WoundedWaits: one that waits is undone like any other.
func TestP1402WoundedWaits(t *testing.T) {
	w := filled(t, "create (:n {k: 1}), (:m {k: 1})")
	w.begin(1, "match (a:n) return a.k; match (a:m) set a.k = 1")
	w.begin(2, "match (a:m) return a.k; match (a:n) set a.k = 2")
	w.step(1, "ran")
	w.step(2, "ran")
	w.step(2, "waits")
	w.step(1, "waits wounded 2")
	w.waits(1, 2) // a wounded one waits for nobody
	w.step(2, "back woken 1")
	w.stat(2, api.TxnStat{Id: 2, Stamp: 2, State: api.SHeldBack, Backs: 1})
	w.tables(2, "")
	w.holds(2, "")
	same(t, "in the lock table", txn.LocksOf(w.m).Live(), []int{1})
	w.step(1, "ran")
	w.step(2, "idle")
	w.step(1, "committed lsn")
	w.step(2, "ran")
	same(t, "in the lock table", txn.LocksOf(w.m).Live(), []int{2})
	w.step(2, "ran")
	w.step(2, "committed lsn")
}

// TestP1402WoundedReady: one whose queries have all run is undone instead of its commit.
func TestP1402WoundedReady(t *testing.T) {
	w := chapter(t)
	unchanged := w.keeps()
	w.begin(1, "match (a:n) return a.k")
	w.begin(2, "match (a:n) set a.k = 8")
	w.step(2, "ran")
	w.step(1, "waits wounded 2")
	w.step(2, "back woken 1")
	unchanged()
	w.step(1, "ran")
	w.tables(1, "1; 2")
	w.step(1, "committed")
	w.step(2, "ran")
	w.step(2, "committed lsn")
}

// TestP1402Woken: one that was woken and is wounded is SReady, and is undone at its next step.
func TestP1402Woken(t *testing.T) {
	w := filled(t, "create (:n {k: 1}), (:m {k: 1}), (:o)")
	w.begin(1, "match (a:o) return a; match (a:m) set a.k = 1")
	w.begin(2, "match (a:n) set a.k = 2")
	w.begin(3, "match (a:m) return a.k; match (a:n) return a.k")
	w.step(2, "ran")
	w.step(3, "ran")
	w.step(3, "waits")
	w.step(1, "ran")
	w.step(1, "waits wounded 3")
	w.step(2, "committed lsn woken 3")
	w.stat(3, api.TxnStat{Id: 3, Stamp: 3, State: api.SReady, Done: 1})
	w.wounded(3, true)
	w.step(3, "back woken 1")
}

// TestP1402Fails: each error of a run fails the transaction, whose tables stay; nothing of it is left.
func TestP1402Fails(t *testing.T) {
	many := "create (:c)"
	for range 11 {
		many += ", (:c)"
	}
	for _, x := range []struct {
		text string
		want string
		done int
	}{
		{"create (:m); match (a:n) set a.k = a.k / 0", "failed 12", 1},
		{"match (a:n) set a.k = 5 abort", "failed 4", 0},
		{"create (:m); return 1; match (a:n) delete a", "failed 72", 2},
		{"return 1; match (a:n) with a.k as v return v.x", "failed 10", 1},
		{"match (a:n) set a.a = 1 set a.b = 1 set a.c = 1 set a.d = 1 set a.e = 1 set a.f = 1 set a.g = 1 set a.h = 1", "failed 74", 0},
		{many + "; match (a:c), (b:c), (c:c), (d:c) return 1", "failed 130", 1},
		{many + "; match (a:c), (b:c), (c:c), (d:c) where false return 1 ; match (a:c), (b:c), (c:c), (d:c) match (e:c), (f:c), (g:c), (h:c) where false return 1", "failed 130", 2},
		{many + "; match (a:c), (b:c), (c:c) with a match (e:c), (f:c), (g:c), (h:c) where false return 1", "failed 131", 1},
	} {
		w := chapter(t)
		unchanged := w.keeps()
		w.begin(1, x.text)
		for range x.done {
			w.step(1, "ran")
		}
		s := w.step(1, x.want)
		w.stat(1, api.TxnStat{Id: 1, Stamp: 1, State: api.SFailed, Done: x.done, Code: s.Code})
		list, _ := w.m.Tables(1)
		same(t, x.text+": tables", len(list), x.done)
		unchanged()
		w.holds(1, "")
		same(t, "in the lock table", len(txn.LocksOf(w.m).Live()), 0)
		w.refused(1, api.ErrDone)
	}
}

// TestP1402Full: a commit that the store does not bear.
func TestP1402Full(t *testing.T) {
	w := empty(t, 200, api.Sizes{Node: 1, Edge: 1, Prop: 2, Tree: 3})
	w.done("create (:a {k: 1}), (:a {k: 2}), (:a), (:a)")
	for _, text := range []string{
		"create (:a), (:a)",
		"match (x:a {k: 1}), (y:a {k: 2}) create (x)-[:t]->(y) create (x)-[:t]->(y) create (x)-[:t]->(y) create (x)-[:t]->(y)",
		"match (x:a) set x.l = 1",
		"match (x:a {k: 1}) create (x)-[:t {a: 1, b: 1, c: 1}]->(x)",
	} {
		unchanged := w.keeps()
		w.begin(1, text)
		w.step(1, "ran")
		w.step(1, "failed 75")
		w.stat(1, api.TxnStat{Id: 1, Stamp: 1, State: api.SFailed, Done: 1, Code: api.ErrFull})
		unchanged()
		w.m.Forget(1)
	}
	w.done("match (x:a {k: 1}) delete x create (:a), (:a)") // what is left counts
}

// TestP1402LogFull: without a reservation a commit finds the log full; with one it never does.
func TestP1402LogFull(t *testing.T) {
	w := empty(t, 2+30, api.Sizes{Node: 1, Edge: 1, Prop: 1, Tree: 1})
	full := 0
	for i := range 40 {
		w.begin(1, "merge (a:a) set a.k = "+fmt.Sprint(i))
		w.step(1, "ran")
		s, _ := w.m.Step(1)
		if s.What == api.TFailed {
			same(t, "the code", s.Code, api.ErrLogFull)
			full++
		}
		w.m.Forget(1)
	}
	if full == 0 {
		t.Error("the log is never full")
	}
	w.s.Checkpoint(api.MaxPages)
	w.done("merge (a:a) set a.k = 77")
}

// TestP1402Held: what was reserved is given back when the transaction ends, and not ahead of that.
func TestP1402Held(t *testing.T) {
	for _, x := range []struct {
		text  string
		steps []string
	}{
		{"create (:m)", []string{"ran", "committed lsn"}},
		{"match (a:n) return a", []string{"ran", "committed"}},
		{"create (:m); abort", []string{"ran", "failed 4"}},
		{"create (:m); match (a:n) set a.k = coalesce(a.k, 'x') + 'x'", []string{"ran", "failed 10"}},
		{"create (:rule)", []string{"ran", "failed 181"}},
		{"create (:rule {kind: 'needs', of: 'n', key: 'j'})", []string{"ran", "failed 180"}},
		{"create (a:m), (b:m), (c:m), (d:m), (e:m), (f:m), (g:m), (h:m), (i:m), (j:m), (k:m), (l:m), (m:m), (o:m)", []string{"ran", "failed 75"}},
	} {
		w := chapter(t)
		w.reserve()
		w.reserve()
		w.begins(1, 1, x.text, true, api.OK)
		w.begins(2, 2, "return 1", false, api.OK)
		w.reserved(2)
		w.step(1, x.steps[0])
		w.reserved(2)
		w.step(1, x.steps[1])
		w.reserved(1)
		w.step(2, "ran")
		w.step(2, "committed") // without a reservation of its own
		w.reserved(1)
	}
}

// TestP1402HeldBack: one that is undone keeps what was reserved for it.
func TestP1402HeldBack(t *testing.T) {
	w := chapter(t)
	w.reserve()
	w.begins(1, 1, "match (a:n) return a.k", false, api.OK)
	w.begins(2, 2, "match (a:n) set a.k = 8", true, api.OK)
	w.step(2, "ran")
	w.step(1, "waits wounded 2")
	w.step(2, "back woken 1")
	w.reserved(1)
	w.step(1, "ran")
	w.step(1, "committed")
	w.reserved(1)
	w.step(2, "ran")
	w.step(2, "committed lsn")
	w.reserved(0)
}

// TestP1402NotReserved: held, though nothing was reserved: what Apply answers.
func TestP1402NotReserved(t *testing.T) {
	w := chapter(t)
	unchanged := w.keeps()
	w.begins(1, 1, "create (:m)", true, api.OK)
	w.begins(2, 2, "return 1", true, api.OK)
	w.step(1, "ran")
	w.step(1, "failed 34")
	w.step(2, "ran")
	w.step(2, "failed 34")
	unchanged()
	w.begins(3, 3, "abort", true, api.OK)
	w.step(3, "failed 4")
}

// TestP1402RulesFirst: a rule that would be broken is told ahead of a store that is full.
func TestP1402RulesFirst(t *testing.T) {
	w := empty(t, 200, api.Sizes{Node: 1, Edge: 1, Prop: 4, Tree: 8})
	w.done("create (:rule {kind: 'unique', of: 'a', key: 'k'}), (:a {k: 1}), (:a), (:a), (:a)")
	w.begin(1, "create (:a {k: 1})")
	w.begin(2, "create (:a {k: 2})")
	w.begin(3, "create (:rule)")
	for id, want := range []string{1: "failed 180", 2: "failed 75", 3: "failed 181"} {
		if id > 0 {
			w.step(id, "ran")
			w.step(id, want)
		}
	}
}
