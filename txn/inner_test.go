package txn

import (
	"testing"

	"trellis/api"
	"trellis/disk"
	"trellis/locks"
	"trellis/records"
	"trellis/syntax"
)

// What the other tests see of the inside.

func LocksOf(m *Manager) *locks.Table { return m.table }

// ViewOf: the view of a transaction that is in the lock table.
func ViewOf(s *records.Store, table *locks.Table, number int) api.View {
	return lockedView{footing{View: s, claims: &claims{table: table, number: number}}}
}

// AwaitedBy: the stamps of those for whose end the transaction is held back.
func AwaitedBy(m *Manager, id int) (out []int64) {
	for _, t := range m.known[id].awaits {
		out = append(out, t.stamp)
	}
	return out
}

// TestP1402Kept: of one that has ended, or is held back, no more is kept than is told later.
func TestP1402Kept(t *testing.T) {
	d, _ := disk.New(100)
	records.Format(d, 60, api.Sizes{Node: 2, Edge: 2, Prop: 2, Tree: 4})
	s, _ := records.Open(d)
	m := New(s)
	begin := func(id int, text string) {
		program, _, _ := syntax.Program(text)
		m.Begin(id, int64(id), program, false)
	}
	begin(1, "create (:a)")
	begin(2, "abort")
	begin(3, "match (x:b) return x; create (:c)")
	begin(4, "create (:b)")
	m.Step(4)
	m.Step(3) // wounds 4
	m.Step(4)
	if x := m.known[4]; x.state != api.SHeldBack || x.space != nil || len(x.tables) != 0 || len(x.awaits) != 1 {
		t.Errorf("one that is held back: %+v", x)
	}
	for _, id := range []int{1, 1, 2, 3, 3, 3, 4, 4} {
		m.Step(id)
	}
	for id, x := range m.known {
		if !x.ended() || x.space != nil || x.codes != nil || x.awaits != nil || len(x.wounded) != 0 {
			t.Errorf("of %d, which has ended: %+v", id, x)
		}
	}
	if len(m.table.Live()) != 0 || len(m.known) != 4 {
		t.Errorf("%d are known, %v in the lock table", len(m.known), m.table.Live())
	}
	for id := range 5 {
		m.Forget(id)
	}
	if len(m.known) != 0 {
		t.Errorf("%d are known behind Forget", len(m.known))
	}
}
