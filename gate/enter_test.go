package gate_test

import (
	"fmt"
	"math"
	"testing"

	"trellis/api"
	"trellis/gate"
)

// makesNone: New refuses these limits.
func makesNone(t *testing.T, most, units int) {
	t.Helper()
	if g, code := gate.New(most, units); g != nil || code != api.ErrCap {
		t.Errorf("New(%d, %d) = %v, %d, want none and %d", most, units, g, code, api.ErrCap)
	}
}

// refuses: a submission is answered with that error, takes no stamp, and changes nothing that Stat tells.
func refuses(t *testing.T, g *gate.Gate, id int, want api.Errno) {
	t.Helper()
	before := fmt.Sprint(g.Stat())
	stamp, code := g.Submit(id)
	same(t, fmt.Sprintf("Submit(%d)", id), []any{stamp, code}, []any{0, want})
	same(t, "Stat() behind it", fmt.Sprint(g.Stat()), before)
}

func TestP1501EveryLimitThatCanBe(t *testing.T) {
	for most := -2; most <= api.MaxMost+2; most++ {
		for units := -2; units <= api.MaxUnits+2; units++ {
			if most < 1 || most > 16 || units < 1 || units > 64 {
				makesNone(t, most, units)
				continue
			}
			same(t, "Stat()", made(t, most, units).Stat(), api.GateStat{Units: units, Most: most})
		}
	}
}

func TestP1501FarBeyondTheLimits(t *testing.T) {
	for _, far := range []int{math.MinInt, math.MinInt + 1, -1 << 32, 1<<32 + 1, 1 << 40, math.MaxInt} {
		makesNone(t, far, 3)
		makesNone(t, 3, far)
		makesNone(t, far, far)
	}
}

func TestP1501ANewGateHasNobody(t *testing.T) {
	g := made(t, 16, 64)
	admits(t, g)
	same(t, "Next()", g.Next(), 0)
	stands(t, g, nil, nil, 0)
}

func TestP1501GatesAreApart(t *testing.T) {
	a, b := made(t, 1, 1), made(t, 1, 1)
	submits(t, a, 5, 1)
	admits(t, a, 5)
	stands(t, b, nil, nil, 0)
	submits(t, b, 5, 1)
	same(t, "Picked(5)", b.Picked(5), api.ErrAway)
}

func TestP1502StampsFollowOneAnother(t *testing.T) {
	g := made(t, 2, 64)
	for i, id := range []int{9, 1, 1 << 30, 1<<30 - 1, 2} {
		submits(t, g, id, int64(i+1))
	}
	stands(t, g, nil, list(9, 1, 1<<30, 1<<30-1, 2), 0)
}

func TestP1502NumbersThatCannotBe(t *testing.T) {
	g := made(t, 2, 64)
	for _, id := range []int{0, -1, 1<<30 + 1, 1 << 31, 1 << 40, math.MinInt, math.MaxInt} {
		refuses(t, g, id, api.ErrArg)
	}
	submits(t, g, 1, 1)
}

func TestP1502KnownOnesAreRefused(t *testing.T) {
	g := made(t, 1, 64)
	submits(t, g, 4, 1)
	submits(t, g, 6, 2)
	refuses(t, g, 4, api.ErrInside)
	admits(t, g, 4)
	refuses(t, g, 4, api.ErrInside)
	refuses(t, g, 6, api.ErrInside)
	submits(t, g, 5, 3)
}

func TestP1502SubmitLetsNobodyIn(t *testing.T) {
	g := made(t, 2, 64)
	submits(t, g, 4, 1)
	stands(t, g, nil, list(4), 0)
	same(t, "Picked(4)", g.Picked(4), api.ErrAway)
}

func TestP1502KnownNoLonger(t *testing.T) {
	for _, logged := range []bool{false, true} {
		g := made(t, 1, 64)
		submits(t, g, 4, 1)
		submits(t, g, 6, 2)
		admits(t, g, 4)
		ends(t, g, 4, logged)
		submits(t, g, 4, 3)
		stands(t, g, nil, list(6, 4), g.Stat().Logged)
		admits(t, g, 6)
	}
}

func TestP1502ACrowd(t *testing.T) {
	g := made(t, 3, 64)
	for id := 1; id <= api.MaxLive; id++ {
		if id == 20 { // those inside count too
			admits(t, g, 1, 2, 3)
		}
		submits(t, g, id, int64(id))
	}
	refuses(t, g, 65, api.ErrCrowd)
	refuses(t, g, 1<<30, api.ErrCrowd)
	refuses(t, g, 2, api.ErrInside)
	refuses(t, g, 64, api.ErrInside)
	refuses(t, g, 0, api.ErrArg)
	refuses(t, g, 1<<30+1, api.ErrArg)
	ends(t, g, 2, false)
	submits(t, g, 65, 65)
	refuses(t, g, 2, api.ErrCrowd)
	admits(t, g, 4)
	refuses(t, g, 2, api.ErrCrowd)
}

func TestP1503AsManyAsMostSays(t *testing.T) {
	for most := 1; most <= api.MaxMost; most++ {
		g := made(t, most, 64)
		for id := 1; id <= 20; id++ {
			submitted(t, g, id)
		}
		entered := g.Admit()
		same(t, "how many entered", len(entered), most)
		same(t, "how many are queued", len(g.Stat().Queue), 20-most)
		admits(t, g)
		ends(t, g, 1, false)
		admits(t, g, most+1)
	}
}

func TestP1503AsManyAsUnitsSay(t *testing.T) {
	for units := 1; units <= 20; units++ {
		g := made(t, 16, units)
		for id := 1; id <= 40; id++ {
			submitted(t, g, id)
		}
		same(t, "how many entered", len(g.Admit()), min(units, 16))
		for id := 1; id <= units; id++ { // one that has left a record keeps its unit
			ends(t, g, id, true)
			same(t, "how many entered", len(g.Admit()), min(1, max(0, units-16-id+1)))
		}
		stands(t, g, nil, g.Stat().Queue, units)
	}
}

func TestP1503OneThatLeftNoRecordGivesItsUnitBack(t *testing.T) {
	g := made(t, 4, 2)
	submitted(t, g, 1, 2, 3, 4)
	admits(t, g, 1, 2)
	ends(t, g, 2, false)
	admits(t, g, 3)
	ends(t, g, 1, true)
	admits(t, g)
	ends(t, g, 3, false)
	admits(t, g, 4)
	stands(t, g, list(4), nil, 1)
}

func TestP1503BehindAllOthers(t *testing.T) {
	g := made(t, 3, 64)
	submitted(t, g, 9, 5, 7, 1, 8)
	admits(t, g, 9, 5, 7)
	ends(t, g, 9, false)
	admits(t, g, 1)
	stands(t, g, list(5, 7, 1), list(8), 0)
	ends(t, g, 7, false)
	admits(t, g, 8)
	stands(t, g, list(5, 1, 8), nil, 0)
}

func TestP1503AnEmptyQueue(t *testing.T) {
	g := made(t, 3, 64)
	submitted(t, g, 2)
	admits(t, g, 2)
	admits(t, g)
	stands(t, g, list(2), nil, 0)
}

func TestP1503TheLastTurnIsTheClock(t *testing.T) {
	g := made(t, 3, 64)
	submitted(t, g, 6, 2)
	admits(t, g, 6, 2)
	picks(t, g, 6, 0, 2) // their last turns: 1, 2 of the sweeper, 3
	submitted(t, g, 4)
	picks(t, g, 6) // when one is submitted does not matter
	admits(t, g, 4)
	turns(t, g, 0, 2, 6, 4, 0)
}
