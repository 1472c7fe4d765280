package server_test

import (
	"bytes"
	"fmt"
	"testing"

	"trellis/api"
	"trellis/disk"
	"trellis/slots"
	"trellis/wal"
)

// TestP1705Order: ErrNoStore, then ErrUp, then what the disk says.
func TestP1705Order(t *testing.T) {
	c := newClient(t)
	c.is("without a store", c.do(api.DoOpen), api.ErrNoStore)
	c.do(api.DoFormat, 1, 1, 1, 1, 1, 1)
	c.do(api.DoCut, 0)
	c.is("up", c.do(api.DoOpen), api.ErrUp)
	c.is("the power goes", c.do(api.DoPick, 0), api.OK) // nothing is to be swept
	c.begins(1, "create (:a)", 1)
	c.is("the power goes", c.do(api.DoRun, 9), api.ErrPower, 2) // the query, the sweeper
	for range 2 {
		c.is("down, without power", c.do(api.DoOpen), api.ErrPower)
		c.status(1, 0, 0, 0)
	}
	c.crash()
	c.is("down", c.do(api.DoOpen), api.OK, 0, 0)
	c.is("up", c.do(api.DoOpen), api.ErrUp)
}

// TestP1705Redone: how many commits there are in all, and how many of them were in the log.
func TestP1705Redone(t *testing.T) {
	c := wide(t, 5, 3)
	commits := int64(0)
	for _, n := range []int64{0, 1, 2, 5, 0, 3} {
		for i := range n {
			c.begins(i+1, "create (:a)", i+1)
			c.picks(i+1, 1, 0, 0, 0)
			c.picks(i+1, 5, 0, 0, 0)
		}
		commits += n
		c.crash()
		c.is("DoOpen", c.do(api.DoOpen), api.OK, commits, n)
		c.crash()
		c.is("DoOpen again: the log is empty", c.do(api.DoOpen), api.OK, commits, 0)
	}
	c.begins(1, "create (:a)", 1)
	c.runs(99, 3, 1) // the sweeper had its turn ahead of the commit
	c.picks(0)
	c.crash()
	c.is("DoOpen behind a sweep", c.do(api.DoOpen), api.OK, commits+1, 0)
	same(t, "the nodes", len(c.graph().Nodes), int(commits+1))
}

// TestP1705New: a new gate, with most and units of the last DoFormat, and no transaction.
func TestP1705New(t *testing.T) {
	c := newClient(t)
	c.do(api.DoFormat, 1, 1, 1, 1, 9, 9)
	c.do(api.DoFormat, 2, 2, 4, 4, 3, 2)
	c.do(api.DoFormat, 1, 1, 1, 1, 1, 99) // refused: it is not the last one
	for id := int64(1); id <= 4; id++ {
		c.begins(id, "create (:a)", id)
	}
	c.picks(1, 1, 0, 0, 0)
	c.picks(1, 5, 0, 0, 0)
	c.crash()
	c.is("DoOpen", c.do(api.DoOpen), api.OK, 1, 1)
	c.status(2, 1, 0, 0)
	for id := int64(1); id <= 4; id++ {
		c.is("a transaction of yore", c.do(api.DoResult, id, -1), api.ErrNoTxn)
		c.begins(id, "create (:b)", id)
	}
	c.status(2, 1, 2, 1, 2, 2, 3, 4)
	for _, id := range []int64{1, 2, 3} { // three units, all free again
		c.picks(id, 1, 0, 0, 0)
		c.picks(id, 5, 0, 0, 0)
	}
	c.status(2, 4, 0, 1, 4)
}

// TestP1705Cap: a log that has not room for the units, and one that has just so much.
func TestP1705Cap(t *testing.T) {
	c := newClient(t)
	c.do(api.DoFormat, 2, 1, 1, 3, 5, 2)
	c.done("create (:a)")
	image := c.s.Image()
	for units := 1; units <= 64; units++ {
		u := over(t, image, units, 2)
		if units <= 5 {
			u.is(fmt.Sprint(units, " units"), u.do(api.DoOpen), api.OK, 1, 1)
			u.status(2, 1, 0, 0)
			continue
		}
		u.is(fmt.Sprint(units, " units"), u.do(api.DoOpen), api.ErrCap)
		u.status(1, 0, 0, 0)
		u.is("down as before", u.do(api.DoDump), api.ErrDown)
		u.is("again", u.do(api.DoOpen), api.ErrCap)
	}
}

// TestP1705CapCountsAllOfTheLog: what its records take counts as well.
func TestP1705CapCountsAllOfTheLog(t *testing.T) {
	c := newClient(t)
	c.do(api.DoFormat, 1, 1, 1, 1, 2, 2)
	for id := int64(1); id <= 2; id++ {
		c.begins(id, "create (a:a {k: 1})-[:r]->(a)", id)
		c.picks(id, 1, 0, 0, 0)
	}
	c.picks(1, 5, 0, 0, 0)
	c.is("the second one: the index has one key", c.do(api.DoPick, 2), api.OK, 6, int64(api.ErrFull), 0, 0)
	c.begins(3, "match (a:a) detach delete a", 3)
	c.picks(3, 1, 0, 0, 0)
	c.picks(3, 5, 0, 0, 0)
	u := over(t, c.s.Image(), 2, 2)
	u.is("DoOpen", u.do(api.DoOpen), api.OK, 2, 2)
}

// TestP1705TooManyPages: a store that no commit could hold whole.
func TestP1705TooManyPages(t *testing.T) {
	for _, tree := range []int{252, 253, 1000} {
		z := api.Sizes{Node: 1, Edge: 1, Prop: 1, Tree: tree}
		pages := 4 + tree
		d, _ := disk.New(4096)
		if code := slots.Format(d, 4096-1-pages, z); code != api.OK {
			t.Fatalf("slots.Format: %d", code)
		}
		c := over(t, d.Image(), 1, 1)
		if tree == 252 {
			c.is("256 pages", c.do(api.DoOpen), api.OK, 0, 0)
			continue
		}
		c.is(fmt.Sprint(pages, " pages"), c.do(api.DoOpen), api.ErrCap)
		c.status(1, 0, 0, 0)
	}
}

// laidNumber: so many bytes of the number, highest first.
func laidNumber(b []byte, n int64) {
	for i := range b {
		b[len(b)-1-i] = byte(n >> (8 * i))
	}
}

// resum: the sum at the front of a sector is made right.
func resum(image []byte, sector int) {
	b := image[sector*api.SectorSize:][:api.SectorSize]
	laidNumber(b[:4], int64(wal.Sum(b[4:])))
}

// ripe: the image, its log's turn being that number: the sector of the other head is blank.
func ripe(image []byte, turn int64) []byte {
	image = bytes.Clone(image)
	from := 1
	if number(image, 2*api.SectorSize+20) > number(image, api.SectorSize+20) {
		from = 2
	}
	to := 1 + int(turn%2)
	head := bytes.Clone(image[from*api.SectorSize:][:api.SectorSize])
	clear(image[api.SectorSize : 3*api.SectorSize])
	laidNumber(head[16:24], turn)
	copy(image[to*api.SectorSize:], head)
	resum(image, to)
	return image
}

const maxTurn = 1 << 40

// TestP1705TheLogsEnd: where the turns of the log have run out, the opening answers the log's error, and the server is down as before.
func TestP1705TheLogsEnd(t *testing.T) {
	c := small(t)
	c.done("create (:a)")
	image := c.s.Image() // one record is in the log
	u := over(t, ripe(image, maxTurn), 3, 2)
	u.is("no turn is left", u.do(api.DoOpen), api.ErrLogFull)
	u = over(t, ripe(image, maxTurn-1), 3, 2)
	u.is("none for the sweep of the opening", u.do(api.DoOpen), api.ErrLogFull)
	u.status(1, 0, 0, 0)
	u.is("DoDump", u.do(api.DoDump), api.ErrDown)
	u = over(t, ripe(image, maxTurn-2), 3, 2)
	u.is("just enough", u.do(api.DoOpen), api.OK, 1, 1)
	same(t, "the graph", u.graph(), c.graph())
}

// TestP1709TheLogsEnd: a sweep that is answered another error than ErrPower takes the server down too.
func TestP1709TheLogsEnd(t *testing.T) {
	for _, run := range []bool{false, true} {
		c := small(t)
		c.done("create (:a)")
		u := over(t, ripe(c.s.Image(), maxTurn-2), 3, 2)
		u.is("DoOpen", u.do(api.DoOpen), api.OK, 1, 1)
		u.begins(1, "create (:b)", 1)
		u.begins(2, "return 1; return 2; return 3", 2)
		u.picks(1, 1, 0, 0, 0)
		u.picks(1, 5, 0, 0, 0)
		if run {
			u.is("DoRun", u.do(api.DoRun, 9), api.ErrLogFull, 1)
		} else {
			u.is("DoPick 0", u.do(api.DoPick, 0), api.ErrLogFull)
		}
		u.status(1, 0, 0, 0)
		u.is("DoOpen", u.do(api.DoOpen), api.ErrLogFull)
	}
}

// TestP1705WhatIsNoStore: images on which there is none: the Code of records.Open.
func TestP1705WhatIsNoStore(t *testing.T) {
	c := small(t)
	c.done("create (:a)")
	spoil := func(sector, at int) []byte {
		image := c.s.Image()
		image[sector*api.SectorSize+at] ^= 1
		return image
	}
	noHead := spoil(1, 30)
	noHead[2*api.SectorSize+30] ^= 1
	for _, x := range []struct {
		what  string
		image []byte
		code  api.Errno
	}{
		{"zeros", make([]byte, 10*api.SectorSize), api.ErrNoStore},
		{"one sector", c.s.Image()[:api.SectorSize], api.ErrNoStore},
		{"a spoilt label", spoil(0, 50), api.ErrNoStore},
		{"no head of the log", noHead, api.ErrLogForm},
		{"a page missing", c.s.Image()[:63*api.SectorSize], api.ErrNoStore},
	} {
		u := over(t, x.image, 3, 2)
		for range 2 {
			u.is(x.what, u.do(api.DoOpen), x.code)
			u.status(1, 0, 0, 0)
		}
	}
}
