package txn_test

import (
	"testing"

	"trellis/api"
	"trellis/txn"
)

// TestP1407Unknown: what asks for one that is not known.
func TestP1407Unknown(t *testing.T) {
	w := crowd(t)
	for _, id := range []int{0, -1, 77, 1 << 40} {
		stat, code := w.m.Stat(id)
		same(t, "Stat", []any{stat, code}, []any{api.TxnStat{}, api.ErrNoTxn})
		list, code := w.m.Tables(id)
		same(t, "Tables", []any{list, code}, []any{[]int{}, api.ErrNoTxn})
		is, code := w.m.Wounded(id)
		same(t, "Wounded", []any{is, code}, []any{false, api.ErrNoTxn})
		same(t, "Forget", w.m.Forget(id), api.ErrNoTxn)
	}
}

// TestP1407States: of transactions in all states.
func TestP1407States(t *testing.T) {
	w := crowd(t)
	same(t, "Live", w.m.Live(), []int{1, 2, 3, 6, 7, 8})
	for _, x := range []struct {
		stat    api.TxnStat
		tables  string
		wounded bool
		forget  api.Errno
	}{
		{api.TxnStat{Id: 1, Stamp: 1, State: api.SReady, Done: 1}, "9; 9", false, api.ErrInside},
		{api.TxnStat{Id: 2, Stamp: 2, State: api.SWaiting}, "", false, api.ErrInside},
		{api.TxnStat{Id: 3, Stamp: 3, State: api.SHeldBack, Backs: 1}, "", true, api.ErrInside},
		{api.TxnStat{Id: 4, Stamp: 4, State: api.SCommitted, Done: 1}, "1", false, api.OK},
		{api.TxnStat{Id: 5, Stamp: 5, State: api.SFailed, Code: api.ErrAborted}, "", false, api.OK},
		{api.TxnStat{Id: 6, Stamp: 6, State: api.SReady, Done: 1}, "", true, api.ErrInside},
		{api.TxnStat{Id: 7, Stamp: 7, State: api.SReady}, "", false, api.ErrInside},
		{api.TxnStat{Id: 8, Stamp: 5, State: api.SWaiting}, "", false, api.ErrInside},
	} {
		w.stat(x.stat.Id, x.stat)
		w.tables(x.stat.Id, x.tables)
		w.wounded(x.stat.Id, x.wounded)
		same(t, "Forget", w.m.Forget(x.stat.Id), x.forget)
		_, code := w.m.Stat(x.stat.Id)
		same(t, "known behind Forget", code == api.ErrNoTxn, x.forget == api.OK)
	}
	same(t, "Live", w.m.Live(), []int{1, 2, 3, 6, 7, 8})
	w.waits(2, 1, 8, 6)
	same(t, "Waits", w.m.Waits(), txn.LocksOf(w.m).Waits())
}

// TestP1407Tables: of a live one those since it began again; of a failed one those ahead of the error; of a committed one all.
func TestP1407Tables(t *testing.T) {
	w := chapter(t)
	w.begin(1, "match (a:m) return a; match (a:n) set a.k = 7")
	w.begin(2, "match (a:n) return a.k; match (a:n) return a.k as x, 1 as y; abort")
	w.step(2, "ran")
	w.step(2, "ran")
	w.tables(2, "1; 2 | 1 1; 2 1")
	w.step(1, "ran")
	w.step(1, "waits wounded 2")
	w.tables(2, "1; 2 | 1 1; 2 1")
	w.step(2, "back woken 1")
	w.tables(2, "")
	w.step(1, "ran")
	w.step(1, "committed lsn")
	w.tables(1, " | ")
	w.tables(2, "")
	w.step(2, "ran")
	w.tables(2, "7; 7")
	w.step(2, "ran")
	w.step(2, "failed 4")
	w.tables(2, "7; 7 | 7 1; 7 1")
	list, _ := w.m.Tables(2)
	same(t, "columns", []any{list[0].Cols, list[1].Cols}, []any{[]string{"a.k"}, []string{"x", "y"}})
	list, _ = w.m.Tables(1)
	same(t, "counts", []int{list[1].Made, list[1].Gone, list[1].Set}, []int{0, 0, 2})
}

// TestP1407New: what is told is new memory, each list of it.
func TestP1407New(t *testing.T) {
	w := chapter(t)
	w.begin(1, "match (a:n) return a.k, a.k + 1 as x; match (a:n) return a")
	w.begin(2, "match (a:n) set a.k = 1")
	w.step(1, "ran")
	w.step(1, "ran")
	w.step(2, "waits")
	for range 2 {
		list, _ := w.m.Tables(1)
		for i := range list {
			for j := range list[i].Cols {
				list[i].Cols[j] = "zz"
			}
			_ = append(list[i].Cols, "yy")
			for j, row := range list[i].Rows {
				_ = append(row, api.Val{Kind: api.KInt, A: 99})
				for k := range row {
					row[k] = api.Val{Kind: api.KInt, A: 77}
				}
				list[i].Rows[j] = nil
			}
		}
		list[0], list[1] = api.Table{}, api.Table{}
		live := w.m.Live()
		live[0] = 77
		waits := w.m.Waits()
		waits[0] = api.Wait{}
	}
	w.tables(1, "1 2; 2 3 | (1); (2)")
	list, _ := w.m.Tables(1)
	same(t, "columns", []any{list[0].Cols, list[1].Cols}, []any{[]string{"a.k", "x"}, []string{"a"}})
	same(t, "Live", w.m.Live(), []int{1, 2})
	w.waits(2, 1)
	for i, row := range list[0].Rows {
		for j, other := range list[0].Rows {
			if i != j {
				_ = append(row[:len(row):len(row)], other...)
				spare := row[:cap(row)]
				for k := len(row); k < cap(row); k++ {
					spare[k] = api.Val{Kind: api.KInt, A: 5}
				}
			}
		}
	}
	same(t, "rows beside each other", shown(list), "1 2; 2 3 | (1); (2)")
}

func TestP1408(t *testing.T) {
	var m *txn.Manager
	same(t, "Begin", m.Begin(1, 1, program(t, "return 1"), true), api.ErrArg)
	s, code := m.Step(1)
	same(t, "Step", []any{s, code}, []any{api.Step{}, api.ErrArg})
	stat, code := m.Stat(1)
	same(t, "Stat", []any{stat, code}, []any{api.TxnStat{}, api.ErrArg})
	list, code := m.Tables(1)
	same(t, "Tables", []any{list, code}, []any{[]int{}, api.ErrArg})
	is, code := m.Wounded(1)
	same(t, "Wounded", []any{is, code}, []any{false, api.ErrArg})
	same(t, "Forget", m.Forget(1), api.ErrArg)
	same(t, "Live, Waits", []any{m.Live(), m.Waits()}, []any{[]int{}, []int{}})
}
