package txn_test

import (
	"fmt"
	"testing"

	"trellis/api"
)

// TestP1403Woken: in the order of the grants; each is ready now.
func TestP1403Woken(t *testing.T) {
	for _, x := range []struct{ text, want string }{
		{"match (a:n) set a.k = 3", "committed lsn woken 9 4 7"},
		{"match (a:n) set a.k = 3; abort", "failed 4 woken 9 4 7"},
	} {
		w := filled(t, "create (:n {k: 1}), (:m)")
		w.begin(1, x.text)
		w.step(1, "ran")
		for i, id := range []int{9, 4, 7} { // the order in which they ask
			w.begins(id, int64(10+i), "match (a:n) return a.k", false, api.OK)
			w.step(id, "waits")
		}
		w.begins(2, 30, "create (:n)", false, api.OK) // behind the others, and does not fit
		w.step(2, "waits")
		w.step(1, x.want)
		for _, id := range []int{9, 4, 7} {
			s, _ := w.m.Stat(id)
			same(t, "woken", s.State, api.SReady)
			w.step(id, "ran")
		}
		w.step(2, "idle")
		w.step(9, "committed")
		w.step(4, "committed")
		w.step(7, "committed woken 2")
	}
}

// TestP1403Wounded: rising by number, whatever the order of the asks; one that was wounded ahead is not told again.
func TestP1403Wounded(t *testing.T) {
	w := filled(t, "create (:n {k: 1}), (:m {k: 1}), (:o {k: 1})")
	w.begins(7, 20, "match (a:m) return a.k", false, api.OK)
	w.begins(5, 30, "match (a:n) return a.k; match (a:m) return a.k", false, api.OK)
	w.begins(6, 40, "match (a:o) return a.k; match (a:m) return a.k", false, api.OK)
	w.step(6, "ran")
	w.step(6, "ran")
	w.step(5, "ran")
	w.step(5, "ran")
	w.step(7, "ran")
	w.begins(9, 10, "match (a:m) set a.k = 2; match (a:n) set a.k = 2", false, api.OK)
	w.begins(8, 5, "match (a:o) set a.k = 2", false, api.OK)
	w.step(8, "waits wounded 6")
	w.step(9, "waits wounded 5 7")
	for _, id := range []int{5, 6, 7} {
		w.wounded(id, true)
	}
	w.step(5, "back")
	w.step(6, "back woken 8")
	w.step(7, "back woken 9")
	same(t, "held back by", []string{fmt.Sprint(heldBy(w, 5)), fmt.Sprint(heldBy(w, 6)), fmt.Sprint(heldBy(w, 7))}, []string{"[10]", "[5 10]", "[10]"})
}

// TestP1403Own: an ask may wound the one that asks: it is told, its query goes on, and its next step undoes it.
func TestP1403Own(t *testing.T) {
	w := filled(t, "create (:n {k: 1}), (:m {k: 1}), (:o {k: 1})")
	w.begin(2, "match (a:n) set a.k = 2")
	w.begin(3, "match (a:m) return a.k; match (a:m) set a.k = 3")
	w.begin(1, "match (a) return a.k")
	w.step(2, "ran")
	w.step(3, "ran")
	w.step(1, "waits wounded 2")
	w.step(3, "ran wounded 3") // the intention on the graph, though 1 waits to read it
	w.wounded(3, true)
	w.step(3, "back")
	w.step(2, "back woken 1")
	w.step(1, "ran")
	w.tables(1, "1; 1; 1")
}

// TestP1403OwnEnd: it is told also in the step in which it ends.
func TestP1403OwnEnd(t *testing.T) {
	w := filled(t, "create (:n {k: 1}), (:m {k: 1})")
	w.begin(2, "match (a:n) set a.k = 2")
	w.begin(3, "match (a:m) return a.k; match (a:m) set a.k = 3 abort")
	w.begin(1, "match (a) return a.k")
	w.step(2, "ran")
	w.step(3, "ran")
	w.step(1, "waits wounded 2")
	w.step(3, "failed 4 wounded 3")
	w.wounded(3, false)
	w.step(2, "back woken 1")
}

// TestP1403OwnWaits: and in one in which it must wait.
func TestP1403OwnWaits(t *testing.T) {
	w := filled(t, "create (:n {k: 1}), (:m {k: 1})")
	w.begin(2, "match (a:n) set a.k = 2")
	w.begin(3, "match (a:m) return a.k; match (a:n) set a.k = 3")
	w.begin(1, "match (a) return a.k")
	w.step(2, "ran")
	w.step(3, "ran")
	w.step(1, "waits wounded 2")
	w.step(3, "waits") // for the label, which it wants to read first
	w.begin(4, "match (a:m) return a.k; create (:o) create (:n)")
	w.step(4, "ran")
	w.step(4, "waits wounded 4")
	w.stat(4, api.TxnStat{Id: 4, Stamp: 4, State: api.SWaiting, Done: 1})
	w.step(4, "back")
}

// TestP1403Lsn: of a commit that wrote; those of later ones are greater.
func TestP1403Lsn(t *testing.T) {
	w := chapter(t)
	last := int64(0)
	for id, text := range []string{1: "create (:m)", 2: "return 1", 3: "match (a:n) set a.k = a.k", 4: "match (a:m) delete a", 5: "match (a:m) set a.k = 1", 6: "create (a:m) delete a", 7: "match (a:n) remove a.nix"} {
		if id == 0 {
			continue
		}
		w.begin(id, text)
		s, _ := w.m.Step(id)
		same(t, text, s, api.Step{What: api.TRan})
		s, code := w.m.Step(id)
		wrote := id == 1 || id == 3 || id == 4 || id == 7
		if code != api.OK || s.What != api.TCommitted || s.Code != api.OK || (s.Lsn > last) != wrote || !wrote && s.Lsn != 0 {
			t.Errorf("%s: %+v, %d", text, s, code)
		}
		last = max(last, s.Lsn)
	}
}

// TestP1403New: the lists of a step are new memory.
func TestP1403New(t *testing.T) {
	w := chapter(t)
	w.begin(1, "match (a:n) set a.k = 3")
	w.begin(2, "match (a:n) return a.k")
	w.begin(3, "match (a:n) return a.k")
	w.step(2, "ran")
	w.step(3, "ran")
	s := w.step(1, "waits wounded 2 3")
	s.Wounded[0], s.Wounded[1] = 99, 98
	_ = append(s.Wounded[:0], 97, 96)
	w.wounded(2, true)
	w.step(2, "back")
	s = w.step(3, "back woken 1")
	s.Woken[0] = 55
	w.step(1, "ran")
	w.step(1, "committed lsn")
	w.step(2, "ran")
	w.step(3, "ran")
}
