package server_test

import (
	"bytes"
	"fmt"
	"math"
	"testing"

	"trellis/api"
	"trellis/server"
)

func TestP1706Order(t *testing.T) {
	c := newClient(t)
	for _, n := range []int64{0, 5, -1, api.MaxRun + 1} {
		c.is("without a store", c.do(api.DoCut, n), api.ErrNoStore)
	}
	c.do(api.DoFormat, 1, 1, 1, 1, 1, 1)
	for _, n := range []int64{-1, api.MaxRun + 1, math.MinInt64, math.MaxInt64, 1 << 32} {
		c.is(fmt.Sprint("DoCut ", n), c.do(api.DoCut, n), api.ErrArg)
	}
	c.is("the greatest", c.do(api.DoCut, api.MaxRun), api.OK)
	c.is("the least", c.do(api.DoCut, 0), api.OK)
	c.done("return 1") // reads and empty commits are no operations
	c.begins(1, "create (:a)", 2)
	c.is("DoRun", c.do(api.DoRun, 9), api.ErrPower, 3) // the sweeper, the query, the sweeper
	c.is("the power is off", c.do(api.DoCut, 3), api.ErrPower)
	c.is("the power is off", c.do(api.DoCut, -3), api.ErrArg)
	c.crash()
	c.is("down", c.do(api.DoCut, 0), api.OK)
	c.is("DoOpen", c.do(api.DoOpen), api.ErrPower)
}

// TestP1706TheLaterCounts: a later cut puts an earlier one off.
func TestP1706TheLaterCounts(t *testing.T) {
	c := small(t)
	c.do(api.DoCut, 0)
	c.do(api.DoCut, 500)
	c.done("create (:a)")
	c.do(api.DoCut, 0)
	c.begins(1, "create (:a)", 2)
	c.picks(1, 1, 0, 0, 0)
	c.is("DoPick 1", c.do(api.DoPick, 1), api.ErrPower)
}

// TestP1706NothingElse: a cut is no turn, wakes nobody, and shows nowhere until an operation meets it.
func TestP1706NothingElse(t *testing.T) {
	c, plain := small(t), small(t)
	for _, x := range []*client{c, plain} {
		x.done("create (:a)")
		x.begins(1, "match (a:a) set a.k = 1; return 2", 2)
		x.begins(2, "match (a:a) return a.k", 3)
		x.begins(3, "return 1", 4)
		x.picks(1, 1, 0, 0, 0)
		x.picks(2, 2, 0, 0, 0)
		x.picks(0)
	}
	image := c.s.Image()
	c.is("DoCut", c.do(api.DoCut, 0), api.OK)
	for _, kind := range []int{api.DoStatus, api.DoDump, api.DoWaits} {
		same(t, fmt.Sprint("the kind ", kind), c.do(kind), plain.do(kind))
	}
	for id := int64(1); id <= 3; id++ {
		same(t, "DoResult", c.do(api.DoResult, id, -1), plain.do(api.DoResult, id, -1))
	}
	if !bytes.Equal(c.s.Image(), image) {
		t.Error("the disk has changed")
	}
	same(t, "the next turn", c.do(api.DoRun, 1), plain.do(api.DoRun, 1))
}

func TestP1707Down(t *testing.T) {
	c := newClient(t)
	c.is("without a store", c.ask(api.Request{Kind: api.DoCrash, Bits: []bool{true}}), api.ErrNoStore)
	c.do(api.DoFormat, 2, 2, 4, 4, 3, 2)
	c.done("create (:a)")
	c.begins(1, "create (:b)", 2)
	c.crash(true, true, true)
	c.status(1, 0, 0, 0)
	for _, q := range []api.Request{
		{Kind: api.DoSubmit, Nums: []int64{-1}, Text: "?"},
		{Kind: api.DoPick, Nums: []int64{-1}},
		{Kind: api.DoPick, Nums: []int64{0}},
		{Kind: api.DoRun, Nums: []int64{-1}},
		{Kind: api.DoResult, Nums: []int64{-1, -9}},
		{Kind: api.DoDump},
		{Kind: api.DoWaits},
		{Kind: api.DoForget, Nums: []int64{-1}},
	} {
		c.is(askedText(q), c.ask(q), api.ErrDown)
	}
	c.crash() // a server that is down may crash again
	c.crash(false)
	c.status(1, 0, 0, 0)
	c.is("DoOpen", c.do(api.DoOpen), api.OK, 1, 1)
}

// TestP1707Bits: of the writes of a commit that was not flushed just those are kept that the bits say.
func TestP1707Bits(t *testing.T) {
	const writes = 3 // of a record of two pages: 246 bytes
	for bits := range 1 << (writes + 2) {
		c := newClient(t)
		c.do(api.DoFormat, 1, 1, 1, 1, 2, 1)
		c.begins(1, "create (:a)", 1)
		c.picks(1, 1, 0, 0, 0)
		c.do(api.DoCut, writes)
		c.is("DoPick 1", c.do(api.DoPick, 1), api.ErrPower)
		keep := make([]bool, writes+2)
		for i := range keep {
			keep[i] = bits>>i&1 == 1
		}
		c.crash(keep...)
		want := int64(0)
		if bits&(1<<writes-1) == 1<<writes-1 {
			want = 1
		}
		c.is(fmt.Sprint("DoOpen behind ", keep), c.do(api.DoOpen), api.OK, want, want)
		same(t, "the nodes", len(c.graph().Nodes), int(want))
	}
}

// TestP1707PowerIsBack: a fuse is gone, too.
func TestP1707PowerIsBack(t *testing.T) {
	c := small(t)
	c.do(api.DoCut, 0)
	c.crash()
	c.is("DoOpen", c.do(api.DoOpen), api.OK, 0, 0)
	c.done("create (:a)")
}

// TestP1716Image: what lasts: without what was not flushed.
func TestP1716Image(t *testing.T) {
	c := newClient(t)
	if len(c.s.Image()) != 0 {
		t.Error("an image without a disk")
	}
	c.do(api.DoFormat, 1, 1, 1, 1, 2, 1)
	same(t, "the length", len(c.s.Image()), int(c.do(api.DoFormat, 1, 1, 1, 1, 2, 1).Nums[0])*api.SectorSize)
	c.begins(1, "create (:a)", 1)
	c.picks(1, 1, 0, 0, 0)
	image := c.s.Image()
	c.do(api.DoCut, 2)
	c.do(api.DoPick, 1)
	if !bytes.Equal(c.s.Image(), image) {
		t.Error("unflushed writes show")
	}
	c.crash(true, true)
	if bytes.Equal(c.s.Image(), image) {
		t.Error("what the crash kept does not show")
	}
	image = c.s.Image()
	for i := range image {
		image[i] ^= 0xFF
	}
	c.is("DoOpen: an image is the caller's own", c.do(api.DoOpen), api.OK, 0, 0)
}

func TestP1717Order(t *testing.T) {
	image := small(t).s.Image()
	for _, x := range []struct {
		what        string
		image       []byte
		units, most int
		code        api.Errno
	}{
		{"units 0", image, 0, 2, api.ErrCap},
		{"units 65", image, 65, 2, api.ErrCap},
		{"units far away", image, math.MinInt, 2, api.ErrCap},
		{"most 0", image, 3, 0, api.ErrCap},
		{"most 17", image, 3, 17, api.ErrCap},
		{"most far away", image, 3, math.MaxInt, api.ErrCap},
		{"nothing is right", nil, 0, 0, api.ErrCap},
		{"no image", nil, 3, 2, api.ErrImage},
		{"an empty one", []byte{}, 64, 16, api.ErrImage},
		{"a byte too few", image[1:], 3, 2, api.ErrImage},
		{"a byte too many", append(bytes.Clone(image), 0), 3, 2, api.ErrImage},
		{"too many sectors", make([]byte, 4097*api.SectorSize), 3, 2, api.ErrImage},
	} {
		s, code := server.Over(x.image, x.units, x.most)
		if s != nil || code != x.code {
			t.Errorf("%s: %v, %d, want the code %d", x.what, s != nil, code, x.code)
		}
	}
	for _, x := range [][2]int{{1, 1}, {64, 16}} {
		if s, code := server.Over(make([]byte, 4096*api.SectorSize), x[0], x[1]); s == nil || code != api.OK {
			t.Errorf("Over with %v: %d", x, code)
		}
	}
}

// TestP1717Another: what the disk of one server holds can be opened by another one, at any time, and neither sees the other.
func TestP1717Another(t *testing.T) {
	c := small(t)
	c.done("create (a:n {k: 1})-[:r {w: 2}]->(b:m {k: 'x'})")
	c.begins(1, "match (a:n) set a.k = 2", 2)
	c.picks(1, 1, 0, 0, 0)
	image := c.s.Image()
	u := over(t, image, 2, 16)
	for i := range image {
		image[i] = 0
	}
	u.status(1, 0, 0, 0)
	if !bytes.Equal(u.s.Image(), c.s.Image()) {
		t.Error("another disk")
	}
	u.is("DoOpen", u.do(api.DoOpen), api.OK, 1, 1)
	same(t, "the graph", u.graph(), c.graph())
	u.done("match (a:n) set a.k = 7")
	c.picks(1, 5, 0, 0, 0)
	same(t, "the one", c.answer("match (a:n) return a.k"), "2")
	same(t, "the other", u.answer("match (a:n) return a.k"), "7")
}

// TestP1717UnitsAndMost: they are those of the gate behind the opening, until a DoFormat gives others.
func TestP1717UnitsAndMost(t *testing.T) {
	c := newClient(t)
	c.do(api.DoFormat, 1, 1, 1, 1, 9, 9)
	for units := 1; units <= 9; units++ {
		for _, most := range []int{1, 4, 16} {
			u := over(t, c.s.Image(), units, most)
			u.is("DoOpen", u.do(api.DoOpen), api.OK, 0, 0)
			for id := int64(1); id <= 12; id++ {
				u.begins(id, "return 1", id)
			}
			same(t, "inside", u.do(api.DoStatus).Nums[2], int64(min(units, most)))
		}
	}
	u := over(t, c.s.Image(), 9, 9)
	u.do(api.DoFormat, 1, 1, 1, 1, 2, 1)
	u.crash()
	u.do(api.DoOpen)
	u.begins(1, "return 1", 1)
	u.begins(2, "return 1", 2)
	u.status(2, 0, 1, 1, 1, 2)
}
