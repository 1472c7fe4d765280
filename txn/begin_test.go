package txn_test

import (
	"math"
	"reflect"
	"testing"

	"trellis/api"
	"trellis/txn"
)

func TestP1401New(t *testing.T) {
	if txn.New(nil) != nil {
		t.Error("New(nil) is not nil")
	}
	w := empty(t, 100, usual)
	if w.m == nil || len(w.m.Live()) != 0 || len(w.m.Waits()) != 0 {
		t.Error("New")
	}
}

// TestP1401Errors: which error, and in which order: each line has the faults of all behind it.
func TestP1401Errors(t *testing.T) {
	w := chapter(t)
	w.begins(5, 50, "return 1", false, api.OK)
	for _, x := range []struct {
		id    int
		stamp int64
		text  string
		want  api.Errno
	}{
		{0, 50, "", api.ErrArg}, {-1, 1, "return 1", api.ErrArg}, {math.MinInt, 1, "return 1", api.ErrArg},
		{5, 0, "", api.ErrArg}, {6, -1, "return 1", api.ErrArg}, {6, math.MinInt64, "return 1", api.ErrArg},
		{5, 51, "", api.ErrTxn}, {5, 51, "return x", api.ErrTxn}, {5, 51, "return 1", api.ErrTxn},
		{6, 50, "", api.ErrTxn}, {6, 50, "return x", api.ErrTxn}, {6, 50, "return 1", api.ErrTxn},
		{6, 51, "", api.ErrIdle},
		{6, 51, "return x", api.ErrCode}, {6, 51, "return 1; return 1 + 'a'", api.ErrCode}, {6, 51, "create (a)", api.ErrCode},
	} {
		w.begins(x.id, x.stamp, x.text, false, x.want)
		same(t, "Live", w.m.Live(), []int{5})
		if x.id != 5 {
			_, code := w.m.Stat(x.id)
			same(t, "Stat of one that was refused", code, api.ErrNoTxn)
		}
	}
	w.begins(6, 51, "return 1", false, api.OK)
	w.begins(math.MaxInt, math.MaxInt64, "return 1", false, api.OK)
	same(t, "Live", w.m.Live(), []int{5, 6, math.MaxInt})
}

// TestP1401Many: sixteen queries, not seventeen; trees that no text has.
func TestP1401Many(t *testing.T) {
	w := chapter(t)
	one := program(t, "return 1")[0]
	var list []api.Query
	for range api.MaxQueries {
		list = append(list, one)
	}
	same(t, "17", w.m.Begin(1, 1, append(list, one), false), api.ErrCode)
	same(t, "16", w.m.Begin(1, 1, list, false), api.OK)
	for range api.MaxQueries {
		w.step(1, "ran")
	}
	w.step(1, "committed")
	for _, bad := range [][]api.Query{{{}}, {one, {}}, {{Parts: []api.Part{{Gives: true}}}}, {{Parts: make([]api.Part, 9)}}} {
		same(t, "no query", w.m.Begin(2, 2, bad, false), api.ErrCode)
	}
	same(t, "nil", w.m.Begin(2, 2, nil, false), api.ErrIdle)
	same(t, "none", w.m.Begin(2, 2, []api.Query{}, false), api.ErrIdle)
}

// TestP1401Ended: the stamp of one that has ended is free again, its number is not.
func TestP1401Ended(t *testing.T) {
	w := chapter(t)
	w.begin(1, "return 1")
	w.begin(2, "abort")
	w.step(1, "ran")
	w.step(1, "committed")
	w.step(2, "failed 4")
	w.begins(1, 9, "return 1", false, api.ErrTxn)
	w.begins(2, 9, "return 1", false, api.ErrTxn)
	w.begins(3, 1, "return 1", false, api.OK)
	w.begins(4, 2, "return 1", false, api.OK)
	w.m.Forget(1)
	w.begins(1, 1, "return 1", false, api.ErrTxn) // the stamp is that of 3 now
	w.begins(1, 9, "return 1", false, api.OK)
}

// TestP1401Live: the stamp of one that waits, or is held back, is that of a live one.
func TestP1401Live(t *testing.T) {
	w := chapter(t)
	w.begins(6, 20, "match (a:n) set a.k = 3", false, api.OK)
	w.begins(7, 30, "match (a:n) return a.k", false, api.OK)
	w.step(6, "ran")
	w.step(7, "waits")
	w.begins(9, 30, "return 1", false, api.ErrTxn)
	w.begins(5, 10, "match (a:n) return a.k", false, api.OK)
	w.step(5, "waits wounded 6")
	w.step(6, "back woken 7 5")
	w.begins(9, 20, "return 1", false, api.ErrTxn)
	w.begins(6, 90, "return 1", false, api.ErrTxn)
}

// TestP1401First: what it is behind Begin: nothing is locked, nothing is read.
func TestP1401First(t *testing.T) {
	w := chapter(t)
	w.begins(3, 7, "match (a) set a.k = 1; return 2", true, api.OK)
	w.stat(3, api.TxnStat{Id: 3, Stamp: 7, State: api.SReady})
	w.tables(3, "")
	w.wounded(3, false)
	w.holds(3, "")
	same(t, "in the lock table", txn.LocksOf(w.m).Live(), []int{3})
	w.done("match (a:n) set a.k = 5") // nobody is in its way
	w.begins(4, 8, "match (a:n) return a.k", false, api.OK)
	w.step(4, "ran")
	w.tables(4, "5; 5")
}

// TestP1401Reserved: with an error what was reserved stays so.
func TestP1401Reserved(t *testing.T) {
	w := chapter(t)
	w.begin(1, "return 1")
	w.reserve()
	w.begins(0, 2, "return 1", true, api.ErrArg)
	w.begins(1, 2, "return 1", true, api.ErrTxn)
	w.begins(2, 2, "", true, api.ErrIdle)
	w.begins(2, 2, "return x", true, api.ErrCode)
	w.reserved(1)
	w.begins(2, 2, "return 1", true, api.OK)
	w.reserved(1)
}

// scribble: writes over all of a tree.
func scribble(v reflect.Value) {
	switch v.Kind() {
	case reflect.Struct:
		for i := range v.NumField() {
			scribble(v.Field(i))
		}
	case reflect.Slice:
		for i := range v.Len() {
			scribble(v.Index(i))
		}
	case reflect.Int, reflect.Int64:
		v.SetInt(77)
	case reflect.String:
		v.SetString("scribble")
	case reflect.Bool:
		v.SetBool(true)
	}
}

// TestP1401Copied: what becomes of the program later does not matter, also for one that begins again.
func TestP1401Copied(t *testing.T) {
	w := chapter(t)
	text := "match (a:n {k: 1})-[e:r]->(b) where b.k > 1 with a, b.k + 1 as s order by s create (c:m {k: s}) return c.k; match (c:m) return c.k as kk limit 3"
	list, keep := program(t, text), program(t, text)
	w.begins(1, 1, "match (a:m) return a; match (a:n) set a.j = 1", false, api.OK)
	same(t, "Begin", w.m.Begin(2, 2, list, false), api.OK)
	if !reflect.DeepEqual(list, keep) {
		t.Error("the program has changed")
	}
	scribble(reflect.ValueOf(list))
	w.step(2, "ran")
	w.step(1, "waits wounded 2")
	w.step(2, "back woken 1")
	w.step(1, "ran")
	w.step(1, "ran")
	w.step(1, "committed lsn")
	w.step(2, "ran")
	w.step(2, "ran")
	w.step(2, "committed lsn")
	w.tables(2, "3 | 3")
	list2, _ := w.m.Tables(2)
	same(t, "the columns", []string{list2[0].Cols[0], list2[1].Cols[0]}, []string{"c.k", "kk"})
}
