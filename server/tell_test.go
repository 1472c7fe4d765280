package server_test

import (
	"fmt"
	"math"
	"testing"

	"trellis/api"
)

// TestP1711Order: the tests in their order.
func TestP1711Order(t *testing.T) {
	c := newClient(t)
	c.is("without a store", c.do(api.DoResult, 0, -2), api.ErrDown)
	c.do(api.DoFormat, 1, 1, 1, 1, 4, 1)
	for _, id := range append(farNumbers, 0) {
		c.is(fmt.Sprint("the number ", id), c.do(api.DoResult, id, 0), api.ErrArg)
	}
	for _, k := range []int64{-2, math.MinInt64} {
		c.is(fmt.Sprint("the table ", k), c.do(api.DoResult, 7, k), api.ErrArg)
	}
	c.is("not known", c.do(api.DoResult, 1<<30, 9), api.ErrNoTxn)
	c.begins(7, "return 1; return 2", 1)
	c.begins(8, "return 1", 2)
	for _, k := range []int64{0, 1, 1 << 32, math.MaxInt64} {
		c.is("no table yet", c.do(api.DoResult, 7, k), api.ErrTable)
		c.is("queued", c.do(api.DoResult, 8, k), api.ErrTable)
	}
	c.picks(7, 1, 0, 0, 0)
	for _, k := range []int64{1, 2, 1 << 32, 1<<32 + 1, math.MaxInt64} {
		c.is("one table", c.do(api.DoResult, 7, k), api.ErrTable)
	}
	same(t, "the table", shown(c.do(api.DoResult, 7, 0).Tables), "1")
}

// TestP1711EachState: what is told in each state, and by which numbers.
func TestP1711EachState(t *testing.T) {
	c := wide(t, 20, 6)
	c.done("create (:n {k: 1})")
	c.begins(11, "match (a:n) set a.k = a.k + 1; match (a:n) return a.k", 2)
	c.begins(12, "match (a:n) return a.k; return 2", 3)
	c.begins(13, "return 1 / 1; return 1 / 0", 4)
	c.begins(14, "return 1; return 'x'", 5)
	c.begins(15, "match (a:n) return a.k", 6)
	c.begins(16, "return 1", 7)
	c.begins(17, "return 1", 8)
	tells := func(what string, id int64, nums ...int64) {
		t.Helper()
		c.is(fmt.Sprint(what, ": DoResult ", id), c.do(api.DoResult, id, -1), api.OK, nums...)
	}
	tells("queued", 17, 1, 0, 0, 0, 8, 0)
	tells("ready", 11, 2, 0, 0, 0, 2, 0)
	c.picks(12, 1, 0, 0, 0)
	tells("ready, a query ran", 12, 2, 0, 1, 0, 3, 0)
	c.picks(11, 2, 0, 0, 1, 12)
	tells("waiting", 11, 3, 0, 0, 0, 2, 0)
	tells("wounded", 12, 2, 0, 1, 0, 3, 1)
	c.picks(12, 4, 0, 1, 11, 0)
	tells("held back", 12, 4, 0, 0, 1, 3, 1)
	c.is("held back: no table", c.do(api.DoResult, 12, 0), api.ErrTable)
	c.picks(13, 1, 0, 0, 0)
	c.picks(13, 6, int64(api.ErrZero), 0, 0)
	tells("failed", 13, 6, int64(api.ErrZero), 1, 0, 4, 0)
	same(t, "failed: the tables ahead of the error", shown(c.tables(13)), "1")
	for range 2 {
		c.picks(14, 1, 0, 0, 0)
	}
	c.picks(14, 5, 0, 0, 0)
	tells("committed", 14, 5, 0, 2, 0, 5, 0)
	same(t, "committed: all tables", shown(c.tables(14)), "1 | 'x'")
	for range 2 {
		c.picks(11, 1, 0, 0, 0)
	}
	same(t, "alive: its own changes", shown(c.tables(11)), " | 2")
	c.picks(11, 5, 0, 0, 0)
	c.picks(12, 1, 0, 0, 0)
	tells("begun again", 12, 2, 0, 1, 1, 3, 0)
	same(t, "begun again: what the commit left", shown(c.tables(12)), "2")
}

// TestP1711OneTable: the k-th alone, as it is: columns, rows, and what was made, gone and set.
func TestP1711OneTable(t *testing.T) {
	c := wide(t, 9, 2)
	c.begins(7, "create (a:n {k: 1})-[e:r]->(b:m) return a, e, b; match (a:n) set a.k = 2i, a.j = 'x'; match (a)-[e]->() delete e return null as nothing, true as yes; return 1 limit 0", 1)
	c.do(api.DoRun, 99)
	want := []api.Table{
		{Cols: []string{"a", "e", "b"}, Rows: [][]api.Val{{{Kind: api.KNode, A: -1}, {Kind: api.KEdge, A: -1}, {Kind: api.KNode, A: -2}}}, Made: 3},
		{Set: 2},
		{Cols: []string{"nothing", "yes"}, Rows: [][]api.Val{{{}, {Kind: api.KBool, A: 1}}}, Gone: 1},
		{Cols: []string{"1"}},
	}
	for k, table := range want {
		same(t, fmt.Sprint("the table ", k), c.do(api.DoResult, 7, int64(k)), api.Reply{To: api.DoResult, Nums: []int64{5, 0, 4, 0, 1, 0}, Tables: []api.Table{table}})
	}
}

func TestP1712Status(t *testing.T) {
	c := newClient(t)
	c.status(0, 0, 0, 0)
	c.do(api.DoFormat, 2, 1, 1, 1, 9, 3)
	c.status(2, 0, 0, 0)
	for i, id := range []int64{9, 2, 7, 1, 8} {
		c.begins(id, "create (:a); return 1", int64(i+1))
	}
	c.status(2, 0, 3, 9, 2, 7, 2, 1, 8)
	for range 2 {
		c.picks(2, 1, 0, 0, 0)
	}
	c.picks(2, 5, 0, 0, 0)
	c.status(2, 1, 3, 9, 7, 1, 1, 8) // by their entering
	c.do(api.DoRun, 99)
	c.status(2, 5, 0, 0)
	c.crash()
	c.status(1, 0, 0, 0)
	c.do(api.DoOpen)
	c.status(2, 5, 0, 0)
}

func TestP1713Dump(t *testing.T) {
	c := newClient(t)
	c.is("without a store", c.do(api.DoDump), api.ErrDown)
	c.do(api.DoFormat, 2, 2, 4, 4, 9, 3)
	same(t, "nothing", c.do(api.DoDump), api.Reply{To: api.DoDump})
	c.done("create (a:n {k: 1, j: 'x'})-[:r {w: 2i}]->(b:m)-[:s]->(a), (:o)")
	want := api.Graph{
		Nodes: []api.Node{{Id: 1, Label: "n", Props: []api.Prop{prop("j", text("x")), prop("k", whole(1))}}, {Id: 2, Label: "m"}, {Id: 3, Label: "o"}},
		Edges: []api.Edge{{Id: 1, Type: "r", From: 1, To: 2, Props: []api.Prop{prop("w", api.Val{Kind: api.KCpx, B: 2})}}, {Id: 2, Type: "s", From: 2, To: 1}},
	}
	same(t, "the graph", c.do(api.DoDump), api.Reply{To: api.DoDump, Graph: want})
	c.begins(1, "match (a) detach delete a", 2)
	c.picks(1, 1, 0, 0, 0)
	same(t, "ahead of the commit", c.graph(), want)
	c.picks(1, 5, 0, 0, 0)
	same(t, "behind it", c.graph(), api.Graph{})
	c.crash()
	c.is("down", c.do(api.DoDump), api.ErrDown)
}

// TestP1713Spoilt: where a page cannot be read the Code is that of records' Graph, without a graph; the server stays up.
func TestP1713Spoilt(t *testing.T) {
	c := newClient(t)
	sectors := int(c.do(api.DoFormat, 1, 1, 1, 1, 1, 1).Nums[0])
	c.done("create (:a {k: 1})")
	c.picks(0)
	image := c.s.Image()
	image[(sectors-4)*api.SectorSize+60] ^= 1 // the page of nodes
	u := over(t, image, 1, 1)
	u.is("DoOpen", u.do(api.DoOpen), api.OK, 1, 0)
	u.is("DoDump", u.do(api.DoDump), api.ErrPage)
	u.status(2, 1, 0, 0)
	u.begins(1, "match (a:a) return a", 1)
	u.picks(1, 6, int64(api.ErrPage), 0, 0)
	u.gives(14, u.do(api.DoFormat, 1, 1, 1, 1, 1, 1))
}

// TestP1714Waits: in order, with each resource's level, id and label.
func TestP1714Waits(t *testing.T) {
	c := wide(t, 20, 8)
	c.is("nobody waits", c.do(api.DoWaits), api.OK)
	c.done("create (:n {k: 1})-[:r]->(:m {k: 2}), (:o {k: 3})")
	c.begins(11, "match (a:n) set a.k = 9", 2)
	c.begins(12, "match (a:o) set a.k = 9", 3)
	c.begins(13, "match (a) return a", 4)
	c.begins(14, "match (a:n) return a", 5)
	c.begins(15, "match (a:m)<-[]-(b) return b.k", 6)
	c.begins(16, "match (a:o) return a", 7)
	c.picks(11, 1, 0, 0, 0)
	c.picks(12, 1, 0, 0, 0)
	c.picks(15, 2, 0, 0, 0) // the node 1, behind an edge
	c.picks(14, 2, 0, 0, 0)
	c.picks(16, 2, 0, 0, 0)
	c.picks(13, 2, 0, 0, 0) // the graph
	same(t, "DoWaits", c.do(api.DoWaits), api.Reply{
		To:    api.DoWaits,
		Nums:  []int64{13, 11, 1, 0, 13, 12, 1, 0, 14, 11, 2, 0, 15, 11, 3, 1, 16, 12, 2, 0},
		Texts: []string{"", "", "n", "", "o"},
	})
	c.picks(11, 5, 0, 2, 14, 15, 0)
	same(t, "DoWaits", c.do(api.DoWaits), api.Reply{To: api.DoWaits, Nums: []int64{13, 12, 1, 0, 16, 12, 2, 0}, Texts: []string{"", "o"}})
	c.crash()
	c.is("down", c.do(api.DoWaits), api.ErrDown)
}

func TestP1715Order(t *testing.T) {
	c := newClient(t)
	c.is("without a store", c.do(api.DoForget, 0), api.ErrDown)
	c.do(api.DoFormat, 1, 1, 1, 1, 4, 1)
	for _, id := range append(farNumbers, 0) {
		c.is(fmt.Sprint("the number ", id), c.do(api.DoForget, id), api.ErrArg)
	}
	c.is("not known", c.do(api.DoForget, 1<<30), api.ErrNoTxn)
	c.begins(1, "return 1", 1)
	c.begins(2, "abort", 2)
	c.is("inside", c.do(api.DoForget, 1), api.ErrInside)
	c.is("queued", c.do(api.DoForget, 2), api.ErrInside)
	c.do(api.DoRun, 99)
	for id := int64(1); id <= 2; id++ {
		c.is("ended", c.do(api.DoForget, id), api.OK)
		c.is("forgotten", c.do(api.DoForget, id), api.ErrNoTxn)
		c.is("forgotten", c.do(api.DoResult, id, -1), api.ErrNoTxn)
		c.is("forgotten", c.do(api.DoPick, id), api.ErrNoTxn)
	}
	c.begins(2, "return 1", 3)
	c.begins(1, "return 1", 4)
}

// TestP1715NothingElse: a forgotten one's commit stays, and who waits for it or by it goes on as before.
func TestP1715NothingElse(t *testing.T) {
	c := wide(t, 9, 4)
	c.begins(1, "create (:n {k: 1})", 1)
	c.begins(2, "match (a:n) return a.k", 2)
	c.picks(2, 1, 0, 0, 0)
	c.picks(1, 2, 0, 0, 1, 2)
	c.picks(2, 4, 0, 1, 1, 0)
	c.picks(1, 1, 0, 0, 0)
	c.picks(1, 5, 0, 0, 0)
	c.is("DoForget", c.do(api.DoForget, 1), api.OK)
	c.begins(1, "match (a:n) set a.k = 5", 3) // the number lives again: it is not the one for which 2 was held back
	c.picks(2, 1, 0, 0, 0)
	same(t, "the table", shown(c.tables(2)), "1")
}
