package locks_test

import (
	"fmt"
	"math"
	"testing"

	"trellis/api"
	"trellis/locks"
)

// Resources.
var (
	graph = api.Res{Level: api.RGraph}
	la    = label("a")
	n7    = node(7)
)

// noRes: what is near a resource and is none.
var noRes = []api.Res{
	{}, {Label: "a"}, {Id: 7}, {Level: -1}, {Level: 4}, {Level: math.MaxInt}, {Level: math.MinInt, Label: "a", Id: 1},
	{Level: api.RGraph, Label: "a"}, {Level: api.RGraph, Id: 1}, {Level: api.RGraph, Id: -1}, {Level: api.RGraph, Label: "a", Id: 7},
	{Level: api.RLabel}, {Level: api.RLabel, Id: 7}, {Level: api.RLabel, Label: "a", Id: 7}, {Level: api.RLabel, Label: "a", Id: -1},
	label("A"), label("1a"), label("a_b"), label("ninechars"), label("a b"), label("é"), label("a\x00"), label("\xff"),
	node(0), node(-1), node(math.MinInt64), {Level: api.RNode, Label: "a"}, {Level: api.RNode, Label: "a", Id: 7}, {Level: api.RNode, Label: " ", Id: 7},
}

// noModes: numbers that are no mode.
var noModes = []int{0, -1, 6, 7, -5, math.MaxInt, math.MinInt, math.MaxInt32, 1 << 40}

func label(name string) api.Res { return api.Res{Level: api.RLabel, Label: name} }
func node(id int64) api.Res     { return api.Res{Level: api.RNode, Id: id} }

func held(txn, mode int) api.Held { return api.Held{Txn: txn, Mode: mode} }

func list[T any](of ...T) []T { return of }

// made: a table with the transactions 1 to n, the stamps 10, 20, ..
func made(t *testing.T, n int) *locks.Table {
	t.Helper()
	x := locks.New()
	for i := 1; i <= n; i++ {
		begins(t, x, i, int64(10*i))
	}
	return x
}

// wants: is the answer of a call the one that is wanted?
func wants(t *testing.T, what string, got, want api.Errno) {
	t.Helper()
	if got != want {
		t.Errorf("%s = %d, want %d", what, got, want)
	}
}

// same: do the two tell the same? (A list that is nil tells the same as one without elements.)
func same(t *testing.T, what string, got, want any) {
	t.Helper()
	if g, w := fmt.Sprintf("%+v", got), fmt.Sprintf("%+v", want); g != w {
		t.Errorf("%s = %s, want %s", what, g, w)
	}
}

func begins(t *testing.T, x *locks.Table, txn int, stamp int64) {
	t.Helper()
	wants(t, fmt.Sprintf("Begin(%d, %d)", txn, stamp), x.Begin(txn, stamp), api.OK)
}

// answers: an Ask must answer so.
func answers(t *testing.T, x *locks.Table, txn int, r api.Res, mode, want int, wounded []int) {
	t.Helper()
	got, hurt, code := x.Ask(txn, r, mode)
	same(t, fmt.Sprintf("Ask(%d, %v, %d)", txn, r, mode), []any{got, hurt, code}, []any{want, wounded, api.OK})
}

// gets: an Ask is granted, and these are wounded by it.
func gets(t *testing.T, x *locks.Table, txn int, r api.Res, mode int, wounded ...int) {
	t.Helper()
	answers(t, x, txn, r, mode, api.LGranted, wounded)
}

// waits: an Ask must wait, and these are wounded by it.
func waits(t *testing.T, x *locks.Table, txn int, r api.Res, mode int, wounded ...int) {
	t.Helper()
	answers(t, x, txn, r, mode, api.LWaits, wounded)
}

// ends: an End grants these requests, and wounds nobody.
func ends(t *testing.T, x *locks.Table, txn int, granted ...int) {
	t.Helper()
	got, hurt, code := x.End(txn)
	same(t, fmt.Sprintf("End(%d)", txn), []any{got, hurt, code}, []any{granted, []int{}, api.OK})
}

// refuses: an Ask is answered with that error, and nothing has changed.
func refuses(t *testing.T, x *locks.Table, txn int, r api.Res, mode int, want api.Errno) {
	t.Helper()
	before := told(x)
	got, hurt, code := x.Ask(txn, r, mode)
	if got != 0 || len(hurt) != 0 || code != want {
		t.Errorf("Ask(%d, %+v, %d) = %d, %v, %d, want the error %d", txn, r, mode, got, hurt, code, want)
	}
	if after := told(x); after != before {
		t.Errorf("behind Ask(%d, %+v, %d) the table is\n%s\nwas\n%s", txn, r, mode, after, before)
	}
}

// holds: that is what a transaction holds on r.
func holds(t *testing.T, x *locks.Table, txn int, r api.Res, want int) {
	t.Helper()
	mode, code := x.Mode(txn, r)
	same(t, fmt.Sprintf("Mode(%d, %v)", txn, r), []any{mode, code}, []any{want, api.OK})
}

// hurt: these have wounded a transaction.
func hurt(t *testing.T, x *locks.Table, txn int, by ...int) {
	t.Helper()
	got, code := x.Wounders(txn)
	same(t, fmt.Sprintf("Wounders(%d)", txn), []any{got, code}, []any{by, api.OK})
	is, code := x.Wounded(txn)
	same(t, fmt.Sprintf("Wounded(%d)", txn), []any{is, code}, []any{len(by) > 0, api.OK})
}

// awaits: the waits of a table, each as From and To, on r all of them.
func awaits(t *testing.T, x *locks.Table, r api.Res, pairs ...[2]int) {
	t.Helper()
	var want []api.Wait
	for _, p := range pairs {
		want = append(want, api.Wait{From: p[0], To: p[1], Res: r})
	}
	same(t, "Waits()", x.Waits(), want)
}

// queues: the queue of r.
func queues(t *testing.T, x *locks.Table, r api.Res, want ...api.Held) {
	t.Helper()
	same(t, fmt.Sprintf("Queue(%v)", r), x.Queue(r), want)
}

// asked: the resources that the tests' transactions ask for, in no order.
var asked = []api.Res{node(10), la, graph, n7, label("b"), label("ab"), label("a0"), node(1), node(math.MaxInt64)}

// told: all that a table tells.
func told(x *locks.Table) string {
	out := fmt.Sprintln(x.Live(), x.Waits())
	for _, r := range asked {
		out += fmt.Sprintln(r, x.Holders(r), x.Queue(r))
	}
	for _, txn := range x.Live() {
		at, goal, code := x.Waiting(txn)
		by, also := x.Wounders(txn)
		is, too := x.Wounded(txn)
		out += fmt.Sprintln(txn, at, goal, code, by, also, is, too)
		for _, r := range asked {
			mode, code := x.Mode(txn, r)
			out += fmt.Sprint(mode, code, " ")
		}
	}
	return out
}
