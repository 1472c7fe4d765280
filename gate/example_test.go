package gate_test

import (
	"testing"

	"trellis/api"
	"trellis/gate"
)

// first: a gate as it is behind the chapter's first example.
func first(t *testing.T) *gate.Gate {
	t.Helper()
	g := made(t, 2, 3)
	submits(t, g, 7, 1)
	submits(t, g, 8, 2)
	submits(t, g, 9, 3)
	admits(t, g, 7, 8)
	return g
}

func TestP1503Example1(t *testing.T) {
	g := first(t)
	same(t, "Stat()", g.Stat(), api.GateStat{Inside: list(7, 8), Queue: list(9), Logged: 0, Units: 3, Most: 2})
}

func TestP1506Example2(t *testing.T) {
	g := first(t)
	turns(t, g, 7, 8, 0)
	same(t, "Next()", g.Next(), 7)
}

func TestP1505Example3(t *testing.T) {
	g := first(t)
	ends(t, g, 7, true)
	admits(t, g, 9)
	stands(t, g, list(8, 9), nil, 1)
	ends(t, g, 8, true)
	submits(t, g, 5, 4)
	admits(t, g)
	stands(t, g, list(9), list(5), 2)
	g.Swept()
	admits(t, g, 5)
}

func TestP1504Example4(t *testing.T) {
	g := first(t)
	same(t, "End(9, false)", g.End(9, false), api.ErrAway)
	refuses(t, g, 7, api.ErrInside)
	refuses(t, g, 0, api.ErrArg)
}

func TestP1501Example5(t *testing.T) {
	for _, c := range [][2]int{{0, 3}, {17, 3}, {2, 0}, {2, 65}} {
		makesNone(t, c[0], c[1])
	}
}

func TestP1503Example6(t *testing.T) {
	g := made(t, 4, 1)
	submits(t, g, 1, 1)
	submits(t, g, 2, 2)
	admits(t, g, 1)
	ends(t, g, 1, true)
	admits(t, g)
	g.Swept()
	admits(t, g, 2)
}

func TestP1507Example7(t *testing.T) {
	g := made(t, 2, 3)
	same(t, "Next()", g.Next(), 0)
	same(t, "Picked(0)", g.Picked(0), api.OK)
	same(t, "Picked(3)", g.Picked(3), api.ErrAway)
}

func TestP1506Example8(t *testing.T) {
	g := made(t, 2, 3)
	submitted(t, g, 3)
	admits(t, g, 3)
	picks(t, g, 3, 0)
	submitted(t, g, 4)
	admits(t, g, 4)
	turns(t, g, 3, 4, 0)
}
