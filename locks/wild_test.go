package locks_test

import (
	"fmt"
	"math"
	"math/rand"
	"slices"
	"testing"

	"trellis/api"
	"trellis/locks"
)

// TestP801Nil: on a nil table each call answers ErrArg and zero values, or nil.
func TestP801Nil(t *testing.T) {
	var x *locks.Table
	for _, txn := range []int{1, 0, -1} {
		for _, r := range []api.Res{n7, node(0)} {
			wants(t, "Begin", x.Begin(txn, 1), api.ErrArg)
			state, hurt, code := x.Ask(txn, r, api.MS)
			same(t, "Ask", []any{state, hurt, code}, []any{0, []int{}, api.ErrArg})
			granted, hurt, code := x.End(txn)
			same(t, "End", []any{granted, hurt, code}, []any{[]int{}, []int{}, api.ErrArg})
			mode, code := x.Mode(txn, r)
			same(t, "Mode", []any{mode, code}, []any{0, api.ErrArg})
			at, goal, code := x.Waiting(txn)
			same(t, "Waiting", []any{at, goal, code}, []any{api.Res{}, 0, api.ErrArg})
			by, code := x.Wounders(txn)
			same(t, "Wounders", []any{by, code}, []any{[]int{}, api.ErrArg})
			is, code := x.Wounded(txn)
			same(t, "Wounded", []any{is, code}, []any{false, api.ErrArg})
			same(t, "the lists", []any{x.Holders(r), x.Queue(r), x.Waits(), x.Live()}, []any{[]int{}, []int{}, []int{}, []int{}})
		}
	}
}

// TestP801Wild: calls with any arguments: with an error every other result is zero, and the table is as it was.
func TestP801Wild(t *testing.T) {
	r := rand.New(rand.NewSource(8))
	x := made(t, 5)
	txns := []int{1, 2, 3, 4, 5, 6, 0, -1, math.MaxInt, math.MinInt}
	stamps := []int64{1, 10, 20, 33, 0, -1, math.MaxInt64, math.MinInt64}
	rs := append(slices.Clone(asked), noRes...)
	for range 6000 {
		txn, res, mode, stamp := txns[r.Intn(len(txns))], rs[r.Intn(len(rs))], numbers[r.Intn(len(numbers))], stamps[r.Intn(len(stamps))]
		before := told(x)
		var code api.Errno
		var rest, zero []any
		switch r.Intn(8) {
		case 0:
			code = x.Begin(txn, stamp)
		case 1, 2, 3:
			state, hurt, fault := x.Ask(txn, res, mode)
			code, rest, zero = fault, []any{state, hurt}, []any{0, []int{}}
		case 4:
			granted, hurt, fault := x.End(txn)
			code, rest, zero = fault, []any{granted, hurt}, []any{[]int{}, []int{}}
		case 5:
			got, fault := x.Mode(txn, res)
			code, rest, zero = fault, []any{got}, []any{0}
		case 6:
			at, goal, fault := x.Waiting(txn)
			code, rest, zero = fault, []any{at, goal}, []any{api.Res{}, 0}
		case 7:
			by, fault := x.Wounders(txn)
			is, _ := x.Wounded(txn)
			code, rest, zero = fault, []any{by, is}, []any{[]int{}, false}
		}
		if code == api.OK {
			continue
		}
		same(t, "the rest of an answer with an error", rest, zero)
		same(t, "the table behind an error", told(x), before)
		x.Holders(res)
		x.Queue(res)
	}
}

// TestP801Asking: what only tells changes nothing.
func TestP801Asking(t *testing.T) {
	x := made(t, 3)
	gets(t, x, 3, n7, api.MX)
	waits(t, x, 1, n7, api.MS, 3)
	before := told(x)
	same(t, "the table, told again", told(x), before)
	same(t, "Holders of what nobody asked for", x.Holders(node(99)), []int{})
	same(t, "the table, told again", told(x), before)
}

// TestP801HandedOut: lists that are handed out are new memory.
func TestP801HandedOut(t *testing.T) {
	x := made(t, 4)
	gets(t, x, 3, n7, api.MS)
	gets(t, x, 4, n7, api.MS)
	_, hurt, _ := x.Ask(2, n7, api.MX)
	x.Ask(1, n7, api.MX)
	want := told(x)
	blurred(hurt)
	blurred(x.Live())
	for txn := 1; txn <= 4; txn++ {
		by, _ := x.Wounders(txn)
		blurred(by)
	}
	for _, l := range [][]api.Held{x.Holders(n7), x.Queue(n7)} {
		for i := range l {
			l[i] = held(77, 77)
		}
		for i := range l[:cap(l)] {
			l[:cap(l)][i] = held(78, 78)
		}
	}
	for i, l := 0, x.Waits(); i < len(l); i++ {
		l[i] = api.Wait{From: 77}
	}
	same(t, "the table", told(x), want)
	x.End(3)
	granted, _, _ := x.End(4)
	want = told(x)
	blurred(granted)
	same(t, "the table", told(x), want)
}

// blurred: writes over a list and its spare room.
func blurred(l []int) {
	l = l[:cap(l)]
	for i := range l {
		l[i] = 77
	}
}

// TestP801Apart: two tables share nothing.
func TestP801Apart(t *testing.T) {
	x, y := made(t, 2), made(t, 2)
	before := told(y)
	gets(t, x, 2, n7, api.MX)
	waits(t, x, 1, n7, api.MX, 2)
	begins(t, x, 3, 30)
	same(t, "the other table", told(y), before)
	gets(t, y, 2, n7, api.MX)
	ends(t, y, 1)
	queues(t, x, n7, held(1, api.MX))
}

// TestP801Many: a line of a thousand, and as many who share, end in good time.
func TestP801Many(t *testing.T) {
	const n = 1000
	x := made(t, n)
	for txn := 1; txn <= n; txn++ {
		gets(t, x, txn, graph, api.MIS)
		gets(t, x, txn, node(int64(txn)), api.MX)
	}
	gets(t, x, 1, la, api.MX)
	for txn := 2; txn <= n; txn++ {
		waits(t, x, txn, la, api.MX)
	}
	same(t, "the waits", len(x.Waits()), n*(n-1)/2)
	for txn := 1; txn < n; txn++ {
		ends(t, x, txn, txn+1)
	}
	same(t, "the last one", fmt.Sprint(x.Live(), x.Waits()), fmt.Sprint(list(n), list[int]()))
}
