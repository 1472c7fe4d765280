package server_test

import (
	"fmt"
	"math"
	"strings"
	"testing"

	"trellis/api"
)

// farNumbers: no transaction can have them.
var farNumbers = []int64{math.MinInt64, -1 << 32, -1, 1<<30 + 1, 1<<32 + 1, math.MaxInt64}

// TestP1708Order: the tests in their order: each request has all the faults behind the one that is told.
func TestP1708Order(t *testing.T) {
	c := newClient(t)
	c.is("without a store", c.submit(0, "?"), api.ErrDown)
	c.do(api.DoFormat, 1, 1, 1, 1, 64, 1)
	for _, id := range append(farNumbers, 0) {
		c.is(fmt.Sprint("the number ", id), c.submit(id, "?"), api.ErrArg)
	}
	c.begins(1<<30, "return 1", 1)
	c.begins(2, "return 1", 2)
	c.is("inside", c.submit(1<<30, "?"), api.ErrInside)
	c.is("queued", c.submit(2, "?"), api.ErrInside)
	c.picks(1<<30, 1, 0, 0, 0)
	c.picks(1<<30, 5, 0, 0, 0)
	c.is("ended", c.submit(1<<30, "?"), api.ErrInside)
	for id := int64(3); id <= 65; id++ {
		c.begins(id, "return 1", id)
	}
	c.is("a fault of the text", c.submit(99, "return 1; return ?"), api.ErrChar, 17)
	c.is("a fault of the check", c.submit(99, "return 1; return x"), api.ErrUnbound, 1)
	c.is("as many as may be live", c.submit(99, "return 1"), api.ErrCrowd)
	c.is("not known", c.do(api.DoResult, 99, -1), api.ErrNoTxn)
	c.runs(4, 4, 2)              // the sweeper, the query, the sweeper, the commit
	c.begins(99, "return 1", 66) // a refused one takes no stamp
}

// TestP1708Texts: errors of the language, each with its place; of sense, each with its query.
func TestP1708Texts(t *testing.T) {
	c := small(t)
	for _, x := range []struct {
		text string
		code api.Errno
		at   int64
	}{
		{"", api.ErrSyntax, 0},
		{"  ", api.ErrSyntax, 2},
		{"create (a:", api.ErrSyntax, 10},
		{"return 1 return 2", api.ErrSyntax, 9},
		{"return A", api.ErrChar, 7},
		{"return 'a", api.ErrChar, 7},
		{"return abcdefghi", api.ErrLong, 7},
		{strings.Repeat(" ", 4090) + "return 1", api.ErrLong, 0},
		{strings.Repeat("return 1;", 17), api.ErrMany, 16 * 9},
		{"return " + strings.Repeat("not ", 30) + "true", api.ErrDeep, 7},
		{"return x", api.ErrUnbound, 0},
		{"return 1; create (a:x); match (a) return a.k, a.k", api.ErrTwice, 2},
		{"return 1; match (a)-[a]->() return 1", api.ErrMix, 1},
		{"match (a) where count(*) = 1 return 1", api.ErrPlace, 0},
		{"return 1; return 1; return 1 + 'a'", api.ErrKind, 2},
		{"create (a)", api.ErrName, 0},
	} {
		c.is(fmt.Sprintf("DoSubmit %q", x.text), c.submit(7, x.text), x.code, x.at)
		c.status(2, 0, 0, 0)
		c.is("not known", c.do(api.DoResult, 7, -1), api.ErrNoTxn)
	}
	c.begins(7, strings.Repeat("return 1;", 16), 1)
}

// TestP1708Entering: behind a submission those enter whom the gate lets in; none of them has had a step.
func TestP1708Entering(t *testing.T) {
	c := small(t)
	c.begins(7, "create (:a)", 1)
	c.status(2, 0, 1, 7, 0)
	c.is("inside", c.do(api.DoResult, 7, -1), api.OK, api.SReady, 0, 0, 0, 1, 0)
	c.begins(5, "create (:a)", 2)
	c.begins(6, "create (:a)", 3)
	c.status(2, 0, 2, 7, 5, 1, 6)
	c.is("queued", c.do(api.DoResult, 6, -1), api.OK, api.SQueued, 0, 0, 0, 3, 0)
	same(t, "the graph", c.graph(), api.Graph{})
}

// TestP1708Again: a number that was forgotten may be submitted again, and has a new stamp and a new program.
func TestP1708Again(t *testing.T) {
	c := small(t)
	for i := range int64(5) {
		c.begins(7, fmt.Sprint("return ", i), i+1)
		c.do(api.DoRun, 9)
		same(t, "its table", shown(c.tables(7)), fmt.Sprint(i))
		c.is("DoForget", c.do(api.DoForget, 7), api.OK)
	}
}

// TestP1709Order: the tests in their order.
func TestP1709Order(t *testing.T) {
	c := newClient(t)
	c.is("without a store", c.do(api.DoPick, -1), api.ErrDown)
	c.do(api.DoFormat, 1, 1, 1, 1, 4, 1)
	for _, id := range farNumbers {
		c.is(fmt.Sprint("the number ", id), c.do(api.DoPick, id), api.ErrArg)
	}
	c.is("not known", c.do(api.DoPick, 1<<30), api.ErrNoTxn)
	c.begins(1, "return 1", 1)
	c.begins(2, "abort", 2)
	c.begins(3, "return 1", 3)
	c.picks(2, 3, 0, 0, 0)
	c.picks(1, 1, 0, 0, 0)
	c.picks(1, 5, 0, 0, 0)
	c.is("committed", c.do(api.DoPick, 1), api.ErrDone)
	c.picks(2, 6, int64(api.ErrAborted), 0, 0)
	c.is("failed", c.do(api.DoPick, 2), api.ErrDone)
	c.do(api.DoForget, 2)
	c.is("forgotten", c.do(api.DoPick, 2), api.ErrNoTxn)
	c.status(2, 0, 1, 3, 0)
}

// TestP1709AQueuedOne: its pick is no turn, and lets nobody in.
func TestP1709AQueuedOne(t *testing.T) {
	c := newClient(t)
	c.do(api.DoFormat, 1, 1, 1, 1, 4, 1)
	c.begins(1, "return 1; return 2; return 3", 1)
	c.begins(2, "return 1", 2)
	c.runs(1, 1) // 1 had its turn; the sweeper is next
	for range 5 {
		c.picks(2, 3, 0, 0, 0)
	}
	c.runs(1, 1) // the sweeper: were 2's picks turns, it would be 1 now
	same(t, "done", c.result(1)[2], int64(1))
	c.runs(1, 1)
	same(t, "done", c.result(1)[2], int64(2))
}

// TestP1709Turns: each pick is a turn, also one that waits or idles; so DoRun goes on with the one whose turn was longest ago.
func TestP1709Turns(t *testing.T) {
	c := wide(t, 8, 3)
	c.done("create (:n {k: 1})")
	c.picks(0)
	c.begins(1, "match (a:n) set a.k = 2; return 1; return 2; return 3", 2)
	c.begins(2, "match (a:n) return a.k", 3)
	c.begins(3, "return 1; return 2; return 3", 4)
	c.picks(3, 1, 0, 0, 0)
	c.picks(0)
	c.picks(1, 1, 0, 0, 0)
	c.picks(2, 2, 0, 0, 0) // it waits for 1
	c.picks(2, 3, 0, 0, 0)
	c.runs(1, 1) // 3
	same(t, "done of 3", c.result(3)[2], int64(2))
	c.runs(1, 1) // the sweeper
	same(t, "done of 1", c.result(1)[2], int64(1))
	c.runs(1, 1) // 1
	same(t, "done of 1", c.result(1)[2], int64(2))
	c.runs(2, 2) // 2, which idles, and 3
	same(t, "done of 3", c.result(3)[2], int64(3))
}

// TestP1709Sweeper: what a sweep does: the log is empty, so others may enter.
func TestP1709Sweeper(t *testing.T) {
	c := small(t)
	for id := int64(1); id <= 5; id++ {
		c.begins(id, "create (:a)", id)
	}
	for id := int64(1); id <= 3; id++ {
		c.picks(id, 1, 0, 0, 0)
		c.picks(id, 5, 0, 0, 0)
	}
	c.status(2, 3, 0, 2, 4, 5) // three records: no room for a fourth
	c.picks(0)
	c.status(2, 3, 2, 4, 5, 0)
	c.crash()
	c.is("DoOpen", c.do(api.DoOpen), api.OK, 3, 0)
	c.picks(0)
	c.status(2, 3, 0, 0)
}

// TestP1709WhoLeavesNoRecord: an empty commit and a failure take no unit of the log: the next one enters at once.
func TestP1709WhoLeavesNoRecord(t *testing.T) {
	c := newClient(t)
	c.do(api.DoFormat, 1, 1, 1, 1, 1, 1)
	for id, text := range []string{"return 1", "create (:a) abort", "match (a:zz) delete a", "create (a:a) delete a", "create (:b)", "return 1"} {
		c.begins(int64(id+1), text, int64(id+1))
	}
	for id := int64(1); id <= 4; id++ {
		c.status(append([]int64{2, 0, 1, id, 6 - id}, []int64{2, 3, 4, 5, 6}[id-1:]...)...)
		for c.result(id)[0] == api.SReady {
			c.do(api.DoPick, id)
		}
	}
	c.picks(5, 1, 0, 0, 0)
	c.picks(5, 5, 0, 0, 0)
	c.status(2, 1, 0, 1, 6) // its record fills the log
	c.picks(0)
	c.status(2, 1, 1, 6, 0)
}

// TestP1709Tells: What, Code, the woken, the wounded.
func TestP1709Tells(t *testing.T) {
	c := wide(t, 20, 8)
	c.done("create (:n {k: 1}), (:m {k: 1})")
	c.begins(11, "match (a:m) return a.k; match (a:n) set a.k = 2", 2)
	c.begins(12, "match (a:n) return a.k", 3)
	c.begins(13, "match (a:n) return a.k", 4)
	c.begins(14, "match (a:m) return a.k", 5)
	c.picks(14, 1, 0, 0, 0)
	c.picks(13, 1, 0, 0, 0)
	c.picks(12, 1, 0, 0, 0)
	c.picks(11, 1, 0, 0, 0)
	c.picks(11, 2, 0, 0, 2, 12, 13) // it waits, and wounds both
	c.picks(11, 3, 0, 0, 0)
	c.picks(13, 4, 0, 0, 0)
	c.picks(12, 4, 0, 1, 11, 0) // back: 11 is woken
	c.picks(11, 1, 0, 0, 0)
	c.picks(12, 3, 0, 0, 0) // held back
	c.begins(15, "match (a:n) return a.k", 6)
	c.begins(16, "match (a:n) return a.k", 7)
	c.picks(16, 2, 0, 0, 0)
	c.picks(15, 2, 0, 0, 0)
	c.picks(11, 5, 0, 2, 16, 15, 0) // committed: both are woken, in the order in which they asked
	c.picks(12, 1, 0, 0, 0)
	same(t, "its table", shown(c.tables(12)), "2")
}

// TestP1709Power: the power goes in a commit, or in a sweep: that Code, nothing else, and the server is down.
func TestP1709Power(t *testing.T) {
	for cut := int64(0); ; cut++ {
		c := small(t)
		c.done("create (:a)")
		c.begins(1, "create (:b)", 2)
		c.begins(2, "return 1", 3)
		c.begins(3, "return 1", 4)
		c.do(api.DoCut, cut)
		if c.do(api.DoPick, 0).Code == api.OK {
			if cut < 4 {
				t.Errorf("a sweep of %d operations", cut)
			}
			return
		}
		c.status(1, 0, 0, 0)
		c.is("DoPick 0", c.do(api.DoPick, 0), api.ErrDown)
		c.crash()
		c.do(api.DoOpen)
		for id := int64(1); id <= 3; id++ {
			c.is("all are gone", c.do(api.DoResult, id, -1), api.ErrNoTxn)
		}
		c.begins(3, "return 1", 1)
	}
}

// TestP1710Order: the tests in their order.
func TestP1710Order(t *testing.T) {
	c := newClient(t)
	c.is("without a store", c.do(api.DoRun, -1), api.ErrDown)
	c.do(api.DoFormat, 1, 1, 1, 1, 4, 1)
	for _, n := range []int64{-1, api.MaxRun + 1, math.MinInt64, math.MaxInt64, 1 << 32} {
		c.is(fmt.Sprint("DoRun ", n), c.do(api.DoRun, n), api.ErrArg)
	}
	c.runs(api.MaxRun, 0) // nobody is there
	c.begins(1, "return 1", 1)
	c.runs(0, 0)
	c.status(2, 0, 1, 1, 0)
	c.runs(api.MaxRun, 3, 1)
}

// TestP1710AsByDoPick: DoRun n is n picks of whom the gate names: each alone gives the same.
func TestP1710AsByDoPick(t *testing.T) {
	at := func(n int64) *client {
		c := wide(t, 4, 3)
		for i, text := range []string{"create (:n {k: 1})", "match (a:n) set a.k = 2; abort", "match (a:n) return a.k", "match (a:n) set a.k = 3", "create (:m)", "match (a) return count(*)"} {
			c.begins(int64(i+1), text, int64(i+1))
		}
		if n > 0 {
			c.do(api.DoRun, n)
		}
		return c
	}
	for n := range int64(40) {
		whole, parts := at(n), at(0)
		for range n {
			parts.do(api.DoRun, 1)
		}
		for _, kind := range []int{api.DoStatus, api.DoDump, api.DoWaits} {
			same(t, fmt.Sprint(n, " picks: the kind ", kind), whole.do(kind), parts.do(kind))
		}
		for id := int64(1); id <= 6; id++ {
			same(t, fmt.Sprint(n, " picks: DoResult ", id), whole.do(api.DoResult, id, -1), parts.do(api.DoResult, id, -1))
		}
	}
}

// TestP1710Tells: how many picks, and who has ended, in that order, the failed ones below 0.
func TestP1710Tells(t *testing.T) {
	c := wide(t, 9, 3)
	c.begins(5, "return 1; return 2; return 3", 1)
	c.begins(3, "abort", 2)
	c.begins(4, "create (:a)", 3)
	c.begins(1, "abort", 4)
	c.runs(99, 11, -3, -1, 4, 5) // 5, 3, 4, the sweeper, 5, 1 (which entered when 3 had failed), 4, the sweeper, 5, the sweeper, 5
	c.status(2, 1, 0, 0)
}

// TestP1710Power: the picks ahead of the loss count, and those that ended by them.
func TestP1710Power(t *testing.T) {
	c := wide(t, 9, 3)
	c.begins(5, "return 1", 1)
	c.begins(3, "abort", 2)
	c.begins(4, "create (:a)", 3)
	c.do(api.DoCut, 0)
	c.is("DoRun", c.do(api.DoRun, 99), api.ErrPower, 5, -3, 5)
	c.status(1, 0, 0, 0)
	c.is("DoRun", c.do(api.DoRun, 99), api.ErrDown)
}
