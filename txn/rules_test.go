package txn_test

import (
	"testing"

	"trellis/api"
	"trellis/rules"
)

// ends: the program alone, as the transaction 1; its last step must be that.
func (w *world) ends(text, want string) {
	w.t.Helper()
	w.begin(1, text)
	for range len(program(w.t, text)) {
		w.step(1, "ran")
	}
	w.step(1, want)
	w.m.Forget(1)
	by, code := rules.Check(w.graph())
	same(w.t, text+": the rules", []any{by, code}, []any{api.Breach{}, api.OK})
}

// TestP1412Kinds: of each kind of rule a commit that keeps it and one that would break it; the rule goes, and what broke it is let in.
func TestP1412Kinds(t *testing.T) {
	for _, x := range []struct{ rule, keeps, breaks string }{
		{"{kind: 'unique', of: 'n', key: 'k'}", "create (:n {k: 3})", "create (:n {k: 1})"},
		{"{kind: 'unique', of: 'n', key: 'k'}", "match (a:n {k: 1}) set a.k = 9", "match (a:n) set a.k = 9"},
		{"{kind: 'needs', of: 'n', key: 'k'}", "create (:n {k: 1})", "create (:n)"},
		{"{kind: 'needs', of: 'n', key: 'k'}", "match (a:n) set a.j = 1", "match (a:n {k: 2}) remove a.k"},
		{"{kind: 'only', of: 'n', key: 'k', type: 'int'}", "match (a:n) remove a.k", "match (a:n {k: 2}) set a.k = 'two'"},
		{"{kind: 'link', of: 'r', from: 'n', to: 'n'}", "match (a:n) create (a)-[:r]->(a)", "match (a:n {k: 1}) create (a)-[:r]->(:m)"},
		{"{kind: 'most', of: 'r', n: 1}", "match (a:n {k: 2}) create (a)-[:r]->(a)", "match (a:n {k: 1}) create (a)-[:r]->(a)"},
		{"{kind: 'order', of: 'r'}", "match (a:n {k: 1}), (b:n {k: 2}) create (a)-[:r]->(b)", "match (a:n {k: 1}), (b:n {k: 2}) create (b)-[:r]->(a)"},
	} {
		w := chapter(t)
		w.ends("create (:rule "+x.rule+")", "committed lsn")
		unchanged := w.keeps()
		w.ends(x.breaks, "failed 180")
		unchanged()
		w.ends("match (a:rule) set a.kind = 'nix'", "failed 181")
		unchanged()
		w.ends(x.keeps+"; match (a:n) return a", "committed lsn")
		w = chapter(t)
		w.ends(x.breaks, "committed lsn")
		unchanged = w.keeps()
		w.ends("create (:rule "+x.rule+")", "failed 180") // a rule that is broken already
		unchanged()
		w.ends("create (:rule "+x.rule+"); match (a:n) detach delete a; match (a:rule) return a.kind", "committed lsn")
		w = chapter(t)
		w.ends("create (:rule "+x.rule+")", "committed lsn")
		w.ends("match (a:rule) delete a; "+x.breaks, "committed lsn")
	}
}

// TestP1412NoRule: a node of the label rule that says no rule is left by no commit.
func TestP1412NoRule(t *testing.T) {
	w := chapter(t)
	unchanged := w.keeps()
	for _, of := range []string{"", "{kind: 'unique'}", "{kind: 'order', of: 'R'}", "{kind: 'most', of: 'r', n: 0 - 1}", "{kind: 'order', of: 'r', x: 1}"} {
		w.ends("create (:rule "+of+")", "failed 181")
	}
	unchanged()
	w.ends("create (a:rule) delete a", "committed")
	w.ends("create (a:rule) set a.kind = 'order' set a.of = 's'", "committed lsn")
	w.ends("match (a:rule) remove a.of", "failed 181")
	w.ends("match (a:rule) remove a.of set a.of = 'r'", "committed lsn")
}

// TestP1412OwnRule: a rule that its own node breaks.
func TestP1412OwnRule(t *testing.T) {
	w := chapter(t)
	w.ends("create (:rule {kind: 'needs', of: 'rule', key: 'name'})", "failed 180")
	w.ends("create (:rule {kind: 'needs', of: 'rule', key: 'kind'})", "committed lsn")
}

// TestP1412Both: one adds a rule, another one breaks it, and neither sees the other's: whoever commits last fails.
func TestP1412Both(t *testing.T) {
	for _, last := range []int{1, 2} {
		w := chapter(t)
		w.begin(1, "create (:rule {kind: 'unique', of: 'm', key: 'k'})")
		w.begin(2, "create (:m {k: 1}), (:m {k: 1}); match (a:n) return a.k")
		w.step(1, "ran")
		w.step(2, "ran")
		w.step(2, "ran")
		w.step(3-last, "committed lsn")
		w.step(last, "failed 180")
		w.stat(last, api.TxnStat{Id: last, Stamp: int64(last), State: api.SFailed, Done: last, Code: api.ErrRule})
		if last == 2 {
			w.tables(2, " | 1; 2")
		}
		same(t, "the commits", commits(w), int64(2))
	}
}

func commits(w *world) int64 {
	n, _ := w.s.Commits()
	return n
}

// TestP1808Broken: a store that breaks its rules when the manager is made: what writes nothing is not looked at; what writes must leave a graph that keeps them.
func TestP1808Broken(t *testing.T) {
	w := chapter(t)
	one := api.Val{Kind: api.KInt, A: 1}
	text := func(s string) api.Val { return api.Val{Kind: api.KStr, S: s} }
	w.s.Apply(api.Delta{NewNodes: []api.Node{
		{Id: -1, Label: "rule", Props: []api.Prop{{Key: "key", Val: text("k")}, {Key: "kind", Val: text("unique")}, {Key: "of", Val: text("n")}}},
		{Id: -2, Label: "n", Props: []api.Prop{{Key: "k", Val: one}}},
	}}, false, true)
	if by, code := rules.Check(w.graph()); code != api.ErrRule || by != (api.Breach{Rule: 3, Node: 4}) {
		t.Fatalf("Check: %v, %d", by, code)
	}
	w.begin(1, "match (a:n) return a.k")
	w.step(1, "ran")
	w.step(1, "committed")
	w.begin(2, "create (:m)")
	w.step(2, "ran")
	w.step(2, "failed 180")
	w.begin(3, "create (a:m) delete a")
	w.step(3, "ran")
	w.step(3, "committed")
	w.begin(4, "match (a:n {k: 1}) with a limit 1 set a.k = 5")
	w.step(4, "ran")
	w.step(4, "committed lsn")
	w.begin(5, "create (:m)")
	w.step(5, "ran")
	w.step(5, "committed lsn")
}

// TestP1411: what is undone, or fails, is read by nobody, neither ahead of that nor behind it; nor are its ids taken.
func TestP1411(t *testing.T) {
	w := chapter(t)
	unchanged := w.keeps()
	w.begin(1, "match (a:o) return a; match (a:n) return a.k")
	w.begin(2, "match (a:n {k: 1}) set a.k = 77 create (a)-[:r]->(:m {k: 5}); match (a:n {k: 77}) return a.k")
	w.begin(3, "create (:o) create (:c); abort")
	w.step(3, "ran")
	w.step(2, "ran")
	w.step(2, "ran")
	w.tables(2, " | 77")
	unchanged()
	w.step(1, "waits wounded 3")
	w.step(3, "back woken 1")
	w.step(1, "ran")
	w.tables(1, "")
	w.step(1, "waits wounded 2")
	unchanged()
	w.step(2, "back woken 1")
	w.step(1, "ran")
	w.tables(1, " | 1; 2")
	w.step(1, "committed")
	w.step(3, "ran")
	w.step(3, "failed 4")
	unchanged()
	w.begin(4, "match (a:o) return count(*); match (a:c) return count(*); match (a {k: 77}) return count(*)")
	w.step(4, "ran")
	w.step(4, "ran")
	w.step(4, "ran")
	w.tables(4, "0 | 0 | 0")
	w.step(4, "committed")
	w.begin(5, "create (:o)")
	w.step(5, "ran")
	w.step(5, "committed lsn")
	same(t, "its id", w.graph().Nodes[2].Id, int64(3))
	w.step(2, "ran")
	w.step(2, "ran")
	w.step(2, "committed lsn")
	same(t, "the next id", w.graph().Nodes[3].Id, int64(4))
}

// TestP1410: three that would wait for one another in a ring: nobody waits for a younger one that is not wounded.
func TestP1410(t *testing.T) {
	for _, order := range [][]int{{1, 2, 3}, {1, 3, 2}, {2, 1, 3}, {2, 3, 1}, {3, 1, 2}, {3, 2, 1}} {
		w := filled(t, "create (:n {k: 0}), (:m {k: 0}), (:o {k: 0})")
		w.begin(1, "match (a:n) set a.k = a.k + 1; match (a:m) set a.k = a.k + 1")
		w.begin(2, "match (a:m) set a.k = a.k + 1; match (a:o) set a.k = a.k + 1")
		w.begin(3, "match (a:o) set a.k = a.k + 1; match (a:n) set a.k = a.k + 1")
		for range 40 {
			for _, id := range order {
				if s, _ := w.m.Stat(id); s.State == api.SCommitted {
					continue
				}
				if _, code := w.m.Step(id); code != api.OK {
					t.Fatalf("Step(%d): %d", id, code)
				}
				for _, x := range w.m.Waits() {
					if hurt, _ := w.m.Wounded(x.To); x.To > x.From && !hurt {
						t.Errorf("%v: %d waits for %d", order, x.From, x.To)
					}
				}
			}
		}
		same(t, "Live", w.m.Live(), []int{})
		w.begin(4, "match (a) return a.k")
		w.step(4, "ran")
		w.tables(4, "2; 2; 2")
		if s, _ := w.m.Stat(1); s.Backs != 0 {
			t.Errorf("%v: the oldest one went back %d times", order, s.Backs)
		}
	}
}
