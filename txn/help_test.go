package txn_test

import (
	"fmt"
	"slices"
	"strings"
	"testing"

	"trellis/api"
	"trellis/disk"
	"trellis/records"
	"trellis/syntax"
	"trellis/txn"
	"trellis/value"
)

// world: a disk, a store on it, and the transactions of that store.
type world struct {
	t *testing.T
	d *disk.Disk
	s *records.Store
	m *txn.Manager
}

var usual = api.Sizes{Node: 3, Edge: 3, Prop: 8, Tree: 12}

// empty: without a node.
func empty(t *testing.T, logSectors int, z api.Sizes) *world {
	t.Helper()
	d, _ := disk.New(1 + logSectors + 1 + z.Node + z.Edge + z.Prop + z.Tree)
	if code := records.Format(d, logSectors, z); code != api.OK {
		t.Fatalf("Format: %d", code)
	}
	s, code := records.Open(d)
	if code != api.OK {
		t.Fatalf("Open: %d", code)
	}
	return &world{t, d, s, txn.New(s)}
}

// filled: with what the programs leave.
func filled(t *testing.T, programs ...string) *world {
	t.Helper()
	w := empty(t, 400, usual)
	for _, text := range programs {
		w.done(text)
	}
	return w
}

// chapter: the store of the chapter's examples.
func chapter(t *testing.T) *world {
	t.Helper()
	return filled(t, "create (:n {k: 1})-[:r]->(:n {k: 2})")
}

// program: the queries of a text; none of the empty text.
func program(t *testing.T, text string) []api.Query {
	t.Helper()
	if text == "" {
		return nil
	}
	out, code, at := syntax.Program(text)
	if code != api.OK {
		t.Fatalf("Program(%q): %d at %d", text, code, at)
	}
	return out
}

// done: the program as a transaction that runs alone to its end, and is forgotten.
func (w *world) done(text string) {
	w.t.Helper()
	const id, stamp = 1 << 20, 1 << 40
	w.begins(id, stamp, text, false, api.OK)
	for range 100 {
		s, code := w.m.Step(id)
		if code != api.OK || s.What == api.TFailed {
			w.t.Fatalf("%s: %+v, %d", text, s, code)
		}
		if s.What == api.TCommitted {
			w.m.Forget(id)
			return
		}
	}
	w.t.Fatalf("%s: it does not end", text)
}

func (w *world) begins(id int, stamp int64, text string, held bool, want api.Errno) {
	w.t.Helper()
	same(w.t, fmt.Sprintf("Begin(%d, %d, %q)", id, stamp, text), w.m.Begin(id, stamp, program(w.t, text), held), want)
}

// begin: with the number as the stamp.
func (w *world) begin(id int, text string) {
	w.t.Helper()
	w.begins(id, int64(id), text, false, api.OK)
}

// told: a step as a text: what it was, then, as far as there are such, the code, whether there is an lsn, the woken, the wounded.
func told(s api.Step) string {
	words := map[int]string{api.TRan: "ran", api.TWaits: "waits", api.TIdle: "idle", api.TBack: "back", api.TCommitted: "committed", api.TFailed: "failed"}
	out := []string{words[s.What]}
	if s.Code != api.OK {
		out = append(out, fmt.Sprint(int(s.Code)))
	}
	if s.Lsn != 0 {
		out = append(out, "lsn")
	}
	list := func(word string, ids []int) {
		for i, id := range ids {
			if i == 0 {
				out = append(out, word)
			}
			out = append(out, fmt.Sprint(id))
		}
	}
	list("woken", s.Woken)
	list("wounded", s.Wounded)
	return strings.Join(out, " ")
}

// step: of that transaction, which must be that.
func (w *world) step(id int, want string) api.Step {
	w.t.Helper()
	s, code := w.m.Step(id)
	if code != api.OK {
		w.t.Errorf("Step(%d): the error %d, want %s", id, code, want)
	}
	same(w.t, fmt.Sprintf("Step(%d)", id), told(s), want)
	return s
}

// refused: a step of that transaction must answer that error, and nothing else.
func (w *world) refused(id int, want api.Errno) {
	w.t.Helper()
	s, code := w.m.Step(id)
	same(w.t, fmt.Sprintf("Step(%d)", id), []any{s, code}, []any{api.Step{}, want})
}

// tables: of that transaction, as texts: rows with "; " between, tables with " | ".
func (w *world) tables(id int, want string) {
	w.t.Helper()
	list, code := w.m.Tables(id)
	same(w.t, fmt.Sprintf("Tables(%d)", id), []any{shown(list), code}, []any{want, api.OK})
}

func shown(list []api.Table) string {
	var out []string
	for _, x := range list {
		var rows []string
		for _, r := range x.Rows {
			var vals []string
			for _, v := range r {
				vals = append(vals, value.Print(v))
			}
			rows = append(rows, strings.Join(vals, " "))
		}
		out = append(out, strings.Join(rows, "; "))
	}
	return strings.Join(out, " | ")
}

func (w *world) stat(id int, want api.TxnStat) {
	w.t.Helper()
	got, code := w.m.Stat(id)
	same(w.t, fmt.Sprintf("Stat(%d)", id), []any{got, code}, []any{want, api.OK})
}

func (w *world) wounded(id int, want bool) {
	w.t.Helper()
	got, code := w.m.Wounded(id)
	same(w.t, fmt.Sprintf("Wounded(%d)", id), []any{got, code}, []any{want, api.OK})
}

// waits: pairs of those that wait and those for whom.
func (w *world) waits(want ...int) {
	w.t.Helper()
	var got []int
	for _, x := range w.m.Waits() {
		got = append(got, x.From, x.To)
	}
	same(w.t, "Waits", got, want)
}

// holds: what the transaction holds, in the order of resources: "graph MIS, n MS, 1 MX".
func (w *world) holds(id int, want string) {
	w.t.Helper()
	same(w.t, fmt.Sprintf("what %d holds", id), w.held(id), want)
}

var modeNames = []string{"-", "MIS", "MIX", "MS", "MSIX", "MX"}

// resources: all of which the tests speak.
func resources() []api.Res {
	out := []api.Res{{Level: api.RGraph}}
	for _, label := range []string{"c", "m", "n", "o", "rule"} {
		out = append(out, api.Res{Level: api.RLabel, Label: label})
	}
	for id := range int64(30) {
		out = append(out, api.Res{Level: api.RNode, Id: id + 1})
	}
	return out
}

func resName(r api.Res) string {
	switch r.Level {
	case api.RGraph:
		return "graph"
	case api.RLabel:
		return r.Label
	}
	return fmt.Sprint(r.Id)
}

func (w *world) held(id int) string {
	var out []string
	for _, r := range resources() {
		if mode, _ := txn.LocksOf(w.m).Mode(id, r); mode != 0 {
			out = append(out, resName(r)+" "+modeNames[mode])
		}
	}
	return strings.Join(out, ", ")
}

// graph: what the store has.
func (w *world) graph() api.Graph {
	w.t.Helper()
	g, code := w.s.Graph()
	if code != api.OK {
		w.t.Fatalf("Graph: %d", code)
	}
	return g
}

// keeps: a function that says whether the store's graph is what it was when keeps was called.
func (w *world) keeps() func() {
	w.t.Helper()
	was := w.graph()
	return func() {
		w.t.Helper()
		same(w.t, "the graph", w.graph(), was)
	}
}

// labels: how many nodes of each label the store has: "m 1, n 2".
func (w *world) labels(want string) {
	w.t.Helper()
	count := map[string]int{}
	for _, n := range w.graph().Nodes {
		count[n.Label]++
	}
	var out []string
	for label, n := range count {
		out = append(out, fmt.Sprint(label, " ", n))
	}
	slices.Sort(out)
	same(w.t, "the nodes", strings.Join(out, ", "), want)
}

func (w *world) reserve() {
	w.t.Helper()
	if code := w.s.Reserve(); code != api.OK {
		w.t.Fatalf("Reserve: %d", code)
	}
}

// reserved: how many reservations there are.
func (w *world) reserved(want int) {
	w.t.Helper()
	before := w.s.Stat().Log.Reserved
	w.reserve()
	one := w.s.Stat().Log.Reserved - before
	w.s.Release()
	same(w.t, "what is reserved", before, want*one)
}

// same: do the two tell the same? (A list that is nil tells the same as one without elements.)
func same(t *testing.T, what string, got, want any) {
	t.Helper()
	if g, w := fmt.Sprintf("%+v", got), fmt.Sprintf("%+v", want); g != w {
		t.Errorf("%s: %s, want %s", what, g, w)
	}
}
