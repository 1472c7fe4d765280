package server_test

import (
	"fmt"
	"slices"
	"testing"

	"trellis/api"
	"trellis/space"
)

// keeps: which of the unflushed writes a crash keeps: none, all, the first ones, all but one, one alone, and some drawn ones.
func keeps(of int) [][]bool {
	out := [][]bool{nil}
	for i := range of {
		one, but, first := make([]bool, of), make([]bool, of), make([]bool, of)
		one[i] = true
		for j := range of {
			but[j], first[j] = j != i, j <= i
		}
		out = append(out, one, but, first)
	}
	d := newDraw(7)
	for range 4 {
		some := make([]bool, of)
		for i := range some {
			some[i] = d.one(2)
		}
		out = append(out, some)
	}
	return out
}

// history: requests, and the graphs that the commits of them leave, one after the other.
type history struct {
	format []int64
	list   []api.Request
	graphs []api.Graph
}

func submitting(id int64, text string) api.Request {
	return api.Request{Kind: api.DoSubmit, Nums: []int64{id}, Text: text}
}

func picking(ids ...int64) (out []api.Request) {
	for _, id := range ids {
		out = append(out, api.Request{Kind: api.DoPick, Nums: []int64{id}})
	}
	return out
}

// aHistory: commits of few and of many pages, sweeps, some that fail, some that wait.
func aHistory(t *testing.T) history {
	t.Helper()
	h := history{format: []int64{1, 1, 2, 2, 3, 2}}
	h.list = append(h.list, submitting(1, "create (:n {k: 1})-[:r {w: 1}]->(:m)"))
	h.list = append(h.list, picking(1, 1)...)
	h.list = append(h.list, submitting(2, "match (a:n) set a.k = 2"), submitting(3, "match (a:m) set a.j = 'x'"))
	h.list = append(h.list, picking(2, 3, 3, 2)...)
	h.list = append(h.list, picking(0)...)
	h.list = append(h.list, submitting(4, "match (a:n) set a.k = 7; abort"), submitting(5, "match (a) detach delete a"))
	h.list = append(h.list, picking(4, 5, 4, 5, 0, 5, 5, 5)...)
	h.list = append(h.list, submitting(6, "create (a:z {k: 3})-[:r]->(a)"), submitting(7, "match (a:z) return a"))
	h.list = append(h.list, picking(6, 6, 7, 7, 7, 7, 0, 0)...)
	h.list = append(h.list, submitting(8, "match (a:z) remove a.k"))
	h.list = append(h.list, picking(8, 8)...)
	c := newClient(t)
	c.do(api.DoFormat, h.format...)
	h.graphs = []api.Graph{c.graph()}
	for _, q := range h.list {
		if r := c.ask(q); r.Code != api.OK && r.Code != api.ErrDone {
			c.fail("%s: %+v", askedText(q), r)
		}
		if n := c.do(api.DoStatus).Nums[1]; n == int64(len(h.graphs)) {
			h.graphs = append(h.graphs, c.graph())
		}
	}
	if len(h.graphs) != 7 {
		c.fail("%d commits", len(h.graphs)-1)
	}
	return h
}

// until: a server that does the requests, the power going behind so many operations: how many commits were told, and whether one was on the way. False: the power lasted.
func (h history) until(t *testing.T, cut int64) (c *client, told int64, onTheWay, gone bool) {
	t.Helper()
	c = newClient(t)
	c.do(api.DoFormat, h.format...)
	c.do(api.DoCut, cut)
	for _, q := range h.list {
		told = c.do(api.DoStatus).Nums[1]
		r := c.ask(q)
		if r.Code == api.ErrPower {
			return c, told, q.Nums[0] != 0, true
		}
	}
	return c, told, false, false
}

// opened: the server is opened: just so many commits, or with the one on the way one more, and the graph that they left.
func (h history) opened(c *client, told int64, onTheWay bool) int64 {
	c.t.Helper()
	r := c.do(api.DoOpen)
	if r.Code != api.OK || r.Nums[0] != told && (!onTheWay || r.Nums[0] != told+1) || r.Nums[1] > h.format[4] {
		c.fail("P2: DoOpen: %+v, told %d, on the way %v", r, told, onTheWay)
	}
	if got, want := c.graph(), h.graphs[r.Nums[0]]; fmt.Sprint(got) != fmt.Sprint(want) {
		c.fail("P2: %d commits: %v, want %v", r.Nums[0], got, want)
	}
	return r.Nums[0]
}

// TestP2EachOperation: the power goes at each write and flush of a history, and each kind of crash follows: between two commits. Then it goes at each one of the opening: that changes nothing.
func TestP2EachOperation(t *testing.T) {
	h := aHistory(t)
	lost, kept := 0, 0
	for cut := int64(0); ; cut++ {
		if _, _, _, gone := h.until(t, cut); !gone {
			if cut < 40 {
				t.Errorf("a history of %d operations", cut)
			}
			break
		}
		for i, keep := range keeps(9) {
			c, told, onTheWay, _ := h.until(t, cut)
			c.crash(keep...)
			image := c.s.Image()
			n := h.opened(c, told, onTheWay)
			if onTheWay && n > told {
				kept++
			} else if onTheWay {
				lost++
			}
			if i%4 == int(cut%4) {
				h.openings(t, image, n)
			}
		}
	}
	if lost < 20 || kept < 20 {
		t.Errorf("of the commits on the way %d were lost, %d were kept", lost, kept)
	}
}

// openings: of a disk on which there are so many commits: the power goes at each operation of an opening.
func (h history) openings(t *testing.T, image []byte, n int64) {
	t.Helper()
	for cut := int64(0); ; cut++ {
		for _, keep := range [][]bool{nil, {true, true, true, true, true, true, true, true, true}, {false, true, true}} {
			u := over(t, image, int(h.format[4]), int(h.format[5]))
			u.do(api.DoCut, cut)
			if r := u.do(api.DoOpen); r.Code == api.OK {
				return
			}
			u.status(1, 0, 0, 0)
			u.crash(keep...)
			h.opened(u, n, false)
		}
	}
}

// TestP2OpeningTwice: opening twice is opening once, and the bytes go on to be opened whoever looked at them.
func TestP2OpeningTwice(t *testing.T) {
	h := aHistory(t)
	c, _, _, _ := h.until(t, 65536)
	for range 5 {
		c.crash()
		h.opened(c, int64(len(h.graphs)-1), false)
		u := over(t, c.s.Image(), 3, 2)
		h.opened(u, int64(len(h.graphs)-1), false)
	}
}

// TestP2Run: the power goes in a DoRun: its Nums tell the commits ahead of it.
func TestP2Run(t *testing.T) {
	for cut := int64(0); cut < 60; cut++ {
		for _, keep := range keeps(5) {
			c := newClient(t)
			c.do(api.DoFormat, 1, 1, 2, 2, 3, 2)
			for id := int64(1); id <= 5; id++ {
				c.begins(id, "create (:n)", id)
			}
			c.do(api.DoCut, cut)
			r := c.do(api.DoRun, 99)
			commits := int64(len(r.Nums) - 1)
			if r.Code == api.OK {
				same(t, "the commits", commits, int64(5))
				continue
			}
			c.crash(keep...)
			o := c.do(api.DoOpen)
			if o.Code != api.OK || o.Nums[0] != commits && o.Nums[0] != commits+1 {
				c.fail("P2: %+v, then %+v", r, o)
			}
			same(t, "the nodes", int64(len(c.graph().Nodes)), o.Nums[0])
		}
	}
}

// recovered: behind a loss of power: a crash that keeps what it likes, openings that the power breaks off, and one that it does not: between two commits.
func (x *bench) recovered(onTheWay []int64) {
	x.t.Helper()
	for {
		if x.one(2) {
			x.crash(slices.Repeat([]bool{true}, 40)...)
		}
		x.crash(x.bits()...)
		if x.one(2) {
			x.do(api.DoCut, x.Int63n(30))
		}
		r := x.do(api.DoOpen)
		if r.Code == api.ErrPower {
			continue
		}
		if r.Code != api.OK || r.Nums[1] > x.units {
			x.fail("seed %d: DoOpen: %+v", x.seed, r)
		}
		if r.Nums[0] != x.commits {
			x.arrived(onTheWay)
		}
		x.want("P2: the commits", r.Nums[0], x.commits)
		break
	}
	x.do(api.DoCut, api.MaxRun)
	x.risen()
	x.laws()
}

// arrived: one of those that may have been on the way is on the disk, wholly.
func (x *bench) arrived(onTheWay []int64) {
	x.t.Helper()
	got := fmt.Sprint(x.graph())
	for _, id := range onTheWay {
		_, delta, code := x.ranAlone(x.texts[id])
		if code != api.OK || isEmpty(delta) {
			continue
		}
		m, _ := space.Load(x.alone.Graph())
		m.Apply(delta)
		if fmt.Sprint(m.Graph()) == got {
			x.apply(delta)
			x.count["arrived"]++
			return
		}
	}
	x.fail("seed %d: P2: a graph that no commit on the way has left: %s", x.seed, got)
}

// TestP2Drawn: drawn programs and picks, the power going again and again.
func TestP2Drawn(t *testing.T) {
	count := map[string]int{}
	for seed := range int64(40) {
		x := newBench(t, seed, usual, 2+seed%4, 1+seed%5).filled()
		for range 10 {
			x.do(api.DoCut, x.Int63n(25))
			for range 50 {
				switch n := x.Intn(30); {
				case n == 0:
					if !x.step(0) {
						x.count["in a sweep"]++
						x.recovered(nil)
					}
				case n == 1:
					if !x.runOn(x.Int63n(9)) {
						x.count["in a run"]++
						x.recovered(x.alives())
					}
				case len(x.live) == 0 || len(x.live) < 6 && n < 8:
					x.begin(x.program())
				default:
					id := pick(x.draw, x.alives()...)
					if !x.step(id) {
						x.count["in a commit"]++
						x.recovered([]int64{id})
					}
				}
			}
		}
		for what, n := range x.count {
			count[what] += n
		}
	}
	wants(t, count, 20, "in a sweep", "in a run", "in a commit")
	wants(t, count, 4, "arrived")
}

// TestP2WhatWasTold: a commit that was told lasts, whatever the crash keeps and whenever it comes.
func TestP2WhatWasTold(t *testing.T) {
	for _, keep := range keeps(6) {
		c := small(t)
		for i := range 12 {
			c.done(fmt.Sprintf("merge (a:n) set a.k = %d", i))
			c.crash(keep...)
			c.do(api.DoOpen)
			same(t, "behind the crash", c.answer("match (a:n) return a.k"), fmt.Sprint(i))
		}
		same(t, "in all", c.do(api.DoStatus).Nums[1], int64(12))
	}
}
