package server_test

import (
	"bytes"
	"fmt"
	"math"
	"testing"

	"trellis/api"
	"trellis/wal"
)

// sectorsOf: the disk's sectors, by the chapter's words; 0: there can be no such store.
func sectorsOf(n []int64) int64 {
	for i, most := range []int64{1024, 1024, 1024, 1024, 64, 16} {
		if n[i] < 1 || n[i] > most {
			return 0
		}
	}
	pages := 1 + n[0] + n[1] + n[2] + n[3]
	if pages > 256 {
		return 0
	}
	payload := 2 + 122*pages
	sectors := 1 + 2 + n[4]*((payload+103)/104) + pages
	if sectors > 4096 {
		return 0
	}
	return sectors
}

// planned: is DoFormat of these numbers answered as the words say?
func planned(t *testing.T, nums ...int64) {
	t.Helper()
	c := newClient(t)
	r := c.do(api.DoFormat, nums...)
	want := sectorsOf(nums)
	if want == 0 {
		c.is(fmt.Sprint("DoFormat ", nums), r, api.ErrArg)
		c.status(0, 0, 0, 0)
		return
	}
	c.is(fmt.Sprint("DoFormat ", nums), r, api.OK, want)
	c.status(2, 0, 0, 0)
	same(t, "the graph", c.graph(), api.Graph{})
	if got := len(c.s.Image()); int64(got) != want*api.SectorSize {
		t.Errorf("DoFormat %v: an image of %d bytes, want %d sectors", nums, got, want)
	}
}

// TestP1704EachNumber: at and around its bounds, the others small; and far away.
func TestP1704EachNumber(t *testing.T) {
	edges := []int64{math.MinInt64, math.MinInt64 + 1, -1 << 32, -1, 0, 1, 2, 15, 16, 17, 63, 64, 65, 251, 252, 253, 254, 255, 256, 257, 1023, 1024, 1025, 1 << 31, 1 << 32, 1<<32 + 1, 1 << 62, math.MaxInt64 - 3, math.MaxInt64}
	for i := range 6 {
		for _, n := range edges {
			nums := []int64{1, 1, 1, 1, 1, 1}
			nums[i] = n
			planned(t, nums...)
		}
	}
}

// TestP1704Sums: pages together, and sectors together, at and around their bounds.
func TestP1704Sums(t *testing.T) {
	for _, nums := range [][]int64{
		{64, 64, 64, 63, 1, 1}, {64, 64, 64, 64, 1, 1}, {252, 1, 1, 1, 1, 1}, {1, 1, 1, 252, 12, 16}, {1, 1, 1, 252, 13, 16},
		{1024, 1024, 1024, 1024, 64, 16}, {1 << 62, 1 << 62, 1 << 62, 1 << 62, 1, 1}, {math.MaxInt64, 1, 1, 1, 1, 1},
	} {
		planned(t, nums...)
	}
	for units := int64(1); units <= 64; units++ {
		for _, pages := range []int64{1, 2, 10, 44, 45, 46, 47, 48, 60, 120, 252} {
			planned(t, 1, pages, 1, 1, units, 1+units%16)
		}
	}
	if wal.Need(2+122*256) != 301 {
		t.Error("the room of the greatest commit")
	}
}

// number: four bytes of the image as a number.
func number(image []byte, at int) int64 {
	return int64(image[at])<<24 | int64(image[at+1])<<16 | int64(image[at+2])<<8 | int64(image[at+3])
}

// TestP1704Layout: what the disk's label says of the log's sectors and of the pages.
func TestP1704Layout(t *testing.T) {
	c := newClient(t)
	for _, nums := range [][]int64{{1, 1, 1, 1, 1, 1}, {2, 2, 4, 4, 3, 2}, {3, 50, 7, 1, 9, 16}} {
		sectors := c.do(api.DoFormat, nums...).Nums[0]
		pages := 1 + nums[0] + nums[1] + nums[2] + nums[3]
		log := 2 + nums[4]*int64(wal.Need(int(2+122*pages)))
		image := c.s.Image()
		same(t, fmt.Sprint("the label of ", nums), []int64{number(image, 12), number(image, 16), sectors}, []int64{log, pages, 1 + log + pages})
	}
}

// TestP1704Sizes: each of the first four numbers is that of its own kind: so much fits, and no more.
func TestP1704Sizes(t *testing.T) {
	for _, x := range []struct {
		nums []int64
		room string // it fits
		more string // behind it this does not
	}{
		{[]int64{2, 1, 1, 1, 9, 1}, "create (:a), (:a), (:a), (:a), (:a), (:a), (:a), (:a), (:a), (:a)", "create (:a)"},
		{[]int64{1, 2, 1, 1, 9, 1}, "create (a:a)-[:r]->(a)-[:r]->(a)-[:r]->(a), (a)-[:r]->(a)-[:r]->(a)-[:r]->(a)", "match (a:a) create (a)-[:r]->(a)"},
		{[]int64{1, 1, 2, 1, 9, 1}, "create (a:a {k: 1})-[:r {k: 1, l: 2, m: 3}]->(a)", "match (:a)-[e]->() set e.n = 1"},
		{[]int64{1, 1, 2, 3, 9, 1}, "create (:a {k: 1, l: 2, m: 3})", "match (a:a) set a.n = 1"},
	} {
		c := newClient(t)
		c.do(api.DoFormat, x.nums...)
		c.done(x.room)
		was := c.graph()
		c.submit(7, x.more)
		c.do(api.DoRun, 9)
		c.is(x.more, c.do(api.DoResult, 7, -1), api.OK, api.SFailed, int64(api.ErrFull), 1, 0, 2, 0)
		same(t, "the graph", c.graph(), was)
	}
}

// TestP1704WhateverWasThere: a server that is up, or down, or without power, with all that it has, is like a new one.
func TestP1704WhateverWasThere(t *testing.T) {
	states := map[string]func(c *client){
		"up":            func(c *client) {},
		"down":          func(c *client) { c.crash() },
		"without power": func(c *client) { c.do(api.DoCut, 0); c.do(api.DoPick, 0) },
		"a fuse":        func(c *client) { c.do(api.DoCut, 0) },
	}
	for name, make := range states {
		c := small(t)
		c.done("create (:a {k: 1})")
		c.begins(7, "create (:b)", 2)
		c.begins(8, "match (a:a) return a", 3)
		c.begins(9, "return 1", 4)
		c.picks(7, 1, 0, 0, 0)
		make(c)
		c.gives(14, c.do(api.DoFormat, 1, 1, 1, 1, 1, 1))
		c.status(2, 0, 0, 0)
		same(t, name+": the graph", c.graph(), api.Graph{})
		fresh := newClient(t)
		fresh.do(api.DoFormat, 1, 1, 1, 1, 1, 1)
		if !bytes.Equal(c.s.Image(), fresh.s.Image()) {
			t.Errorf("%s: another disk than that of a new server", name)
		}
		for _, id := range []int64{7, 8, 9} {
			c.is(name, c.do(api.DoResult, id, -1), api.ErrNoTxn)
		}
		c.begins(9, "create (:c)", 1) // the stamps, the power, the gate are new
		c.begins(7, "create (:c)", 2)
		c.status(2, 0, 1, 9, 1, 7)
		c.runs(99, 7, 9, 7) // 9, the sweeper, 9, the sweeper, 7, the sweeper, 7
	}
}

// TestP1704ErrArgChangesNothing: with transactions under way.
func TestP1704ErrArgChangesNothing(t *testing.T) {
	c := small(t)
	c.begins(7, "create (:b)", 1)
	c.begins(8, "return 1", 2)
	c.begins(9, "return 1", 3)
	c.picks(7, 1, 0, 0, 0)
	image := c.s.Image()
	c.is("DoFormat", c.do(api.DoFormat, 1, 1, 1, 1, 65, 1), api.ErrArg)
	c.status(2, 0, 2, 7, 8, 1, 9)
	if !bytes.Equal(c.s.Image(), image) {
		t.Error("the disk has changed")
	}
	c.picks(7, 5, 0, 0, 0)
	c.crash()
	c.is("DoFormat", c.do(api.DoFormat, 1, 1, 1, 0, 1, 1), api.ErrArg)
	c.status(1, 0, 0, 0)
	c.is("DoOpen", c.do(api.DoOpen), api.OK, 1, 1)
}

// TestP1704TheGate: most and units are those of the gate.
func TestP1704TheGate(t *testing.T) {
	for most := int64(1); most <= 16; most++ {
		for _, units := range []int64{1, 2, 5, 16, 17} {
			c := newClient(t)
			c.do(api.DoFormat, 1, 1, 1, 1, units, most)
			for id := int64(1); id <= 20; id++ {
				c.begins(id, "return 1", id)
			}
			same(t, fmt.Sprint("inside, most ", most, " units ", units), c.do(api.DoStatus).Nums[2], min(most, units))
		}
	}
}
