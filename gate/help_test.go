package gate_test

import (
	"fmt"
	"testing"

	"trellis/api"
	"trellis/gate"
)

// list: these, as a list.
func list(of ...int) []int { return of }

// same: do the two tell the same? (A list that is nil tells the same as one without elements.)
func same(t *testing.T, what string, got, want any) {
	t.Helper()
	if g, w := fmt.Sprintf("%+v", got), fmt.Sprintf("%+v", want); g != w {
		t.Errorf("%s = %s, want %s", what, g, w)
	}
}

// made: a gate.
func made(t *testing.T, most, units int) *gate.Gate {
	t.Helper()
	g, code := gate.New(most, units)
	if g == nil || code != api.OK {
		t.Fatalf("New(%d, %d) = %v, %d", most, units, g, code)
	}
	return g
}

// submits: a submission is taken, with that stamp.
func submits(t *testing.T, g *gate.Gate, id int, want int64) {
	t.Helper()
	stamp, code := g.Submit(id)
	same(t, fmt.Sprintf("Submit(%d)", id), []any{stamp, code}, []any{want, api.OK})
}

// submitted: numbers are submitted one behind the other, whatever their stamps are.
func submitted(t *testing.T, g *gate.Gate, ids ...int) {
	t.Helper()
	for _, id := range ids {
		if _, code := g.Submit(id); code != api.OK {
			t.Fatalf("Submit(%d) = %d", id, code)
		}
	}
}

// admits: an Admit lets these in.
func admits(t *testing.T, g *gate.Gate, want ...int) {
	t.Helper()
	same(t, "Admit()", g.Admit(), want)
}

// ends: an End is taken.
func ends(t *testing.T, g *gate.Gate, id int, logged bool) {
	t.Helper()
	same(t, fmt.Sprintf("End(%d, %v)", id, logged), g.End(id, logged), api.OK)
}

// picks: a Picked is taken.
func picks(t *testing.T, g *gate.Gate, ids ...int) {
	t.Helper()
	for _, id := range ids {
		same(t, fmt.Sprintf("Picked(%d)", id), g.Picked(id), api.OK)
	}
}

// turns: one behind the other, these are named by Next and picked.
func turns(t *testing.T, g *gate.Gate, ids ...int) {
	t.Helper()
	for i, id := range ids {
		same(t, fmt.Sprintf("Next() of turn %d", i), g.Next(), id)
		picks(t, g, id)
	}
}

// stands: that is what Stat tells, beside the limits.
func stands(t *testing.T, g *gate.Gate, inside, queue []int, logged int) {
	t.Helper()
	s := g.Stat()
	same(t, "Stat()", s, api.GateStat{Inside: inside, Queue: queue, Logged: logged, Units: s.Units, Most: s.Most})
}

// order: in which order the turns go from now on, one round of it. (It changes the gate.)
func order(g *gate.Gate) []int {
	var out []int
	for range len(g.Stat().Inside) + 1 {
		id := g.Next()
		g.Picked(id)
		out = append(out, id)
	}
	return out
}
