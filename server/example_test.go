package server_test

import (
	"testing"

	"trellis/api"
)

// TestDocExamples: the ten of the whole, in their order, of one server.
func TestDocExamples(t *testing.T) {
	c := newClient(t)
	c.status(0, 0, 0, 0) // 1
	c.gives(64, c.do(api.DoFormat, 2, 2, 4, 4, 3, 2))
	c.status(2, 0, 0, 0)
	c.begins(7, "create (a:city {name: 'ulm', pop: 5})", 1) // 3
	c.picks(7, 1, 0, 0, 0)
	c.picks(7, 5, 0, 0, 0)
	five := api.Graph{Nodes: []api.Node{{Id: 1, Label: "city", Props: []api.Prop{prop("name", text("ulm")), prop("pop", whole(5))}}}}
	same(t, "example 5", c.do(api.DoDump), api.Reply{To: api.DoDump, Graph: five})
	c.begins(8, "match (a:city) where a.pop > 3 return a.name, a.pop * 2 as twice", 2) // 6
	c.runs(10, 4, 8)
	table := api.Table{Cols: []string{"a.name", "twice"}, Rows: [][]api.Val{{text("ulm"), whole(10)}}}
	same(t, "example 6", c.do(api.DoResult, 8, 0), api.Reply{To: api.DoResult, Nums: []int64{5, 0, 1, 0, 2, 0}, Tables: []api.Table{table}})
	c.begins(9, "match (a:city) set a.pop = a.pop + 1; abort", 3) // 7
	c.do(api.DoRun, 10)
	c.is("example 7", c.do(api.DoResult, 9, -1), api.OK, 6, 4, 1, 0, 3, 0)
	same(t, "example 7", c.graph(), five)
	c.is("example 8", c.submit(10, "create (a:"), api.ErrSyntax, 10)
	c.status(2, 1, 0, 0)
	c.is("example 9", c.do(api.DoCut, 0), api.OK)
	c.begins(11, "create (b:city)", 4)
	c.picks(11, 1, 0, 0, 0)
	c.is("example 9", c.do(api.DoPick, 11), api.ErrPower)
	c.is("example 9", c.do(api.DoDump), api.ErrDown)
	c.crash()
	c.is("example 9", c.do(api.DoOpen), api.OK, 1, 0)
	same(t, "example 9", c.graph(), five)
	same(t, "example 10", repliesOf(t, c.s.Feed([]byte("x"))), []api.Reply{{Code: api.ErrFrame}})
	same(t, "example 10", repliesOf(t, c.s.Feed([]byte("yz"))), []api.Reply{})
}

func TestChapterExample1(t *testing.T) {
	c := newClient(t)
	c.is("DoPick 0", c.do(api.DoPick, 0), api.ErrDown)
	c.is("DoOpen", c.do(api.DoOpen), api.ErrNoStore)
	c.gives(14, c.do(api.DoFormat, 1, 1, 1, 1, 1, 1))
}

func TestChapterExample2(t *testing.T) {
	c := newClient(t)
	for _, nums := range [][]int64{{0, 1, 1, 1, 1, 1}, {1, 1, 1, 1, 0, 1}, {1, 1, 1, 1, 1, 17}, {100, 100, 100, 100, 1, 1}} {
		c.is("DoFormat", c.do(api.DoFormat, nums...), api.ErrArg)
	}
}

func TestChapterExamples3And4(t *testing.T) {
	c := small(t)
	for i, id := range []int64{7, 8, 9} {
		c.begins(id, "return 1", int64(i+1))
	}
	c.status(2, 0, 2, 7, 8, 1, 9)
	c.is("DoOpen", c.do(api.DoOpen), api.ErrUp)
	c.crash()
	c.is("DoOpen", c.do(api.DoOpen), api.OK, 0, 0)
	c.status(2, 0, 0, 0)
	c.is("DoResult", c.do(api.DoResult, 7, -1), api.ErrNoTxn)
	c.begins(7, "return 1", 1)
}

func TestChapterExample5(t *testing.T) {
	c := small(t)
	c.is("DoSubmit", c.submit(7, "create (a:x); return b.c"), api.ErrUnbound, 1)
}

func TestChapterExample6(t *testing.T) {
	c := small(t)
	c.begins(1, "create (a:n {k: 1})", 1)
	c.runs(9, 3, 1)
	c.begins(2, "match (a:n) set a.k = 2; match (a:n) return a.k", 2)
	c.begins(3, "match (a:n) set a.k = 3", 3)
	c.picks(3, 1, 0, 0, 0)
	c.picks(2, 2, 0, 0, 1, 3)
	same(t, "DoWaits", c.do(api.DoWaits), api.Reply{To: api.DoWaits, Nums: []int64{2, 3, 2, 0}, Texts: []string{"n"}})
	c.picks(3, 4, 0, 1, 2, 0)
	c.picks(3, 3, 0, 0, 0)
	c.picks(2, 1, 0, 0, 0)
	c.picks(2, 1, 0, 0, 0)
	c.picks(2, 5, 0, 0, 0)
}
