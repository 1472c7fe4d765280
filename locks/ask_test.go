package locks_test

import (
	"math"
	"testing"

	"trellis/api"
)

// TestP804Faults: of several faults the one that is named first; nothing has changed.
func TestP804Faults(t *testing.T) {
	x := made(t, 2)
	gets(t, x, 1, n7, api.MX)
	waits(t, x, 2, n7, api.MS)
	for _, txn := range []int{0, -1, 3, math.MaxInt, math.MinInt} {
		refuses(t, x, txn, n7, api.MS, api.ErrTxn)
		refuses(t, x, txn, node(0), 0, api.ErrTxn)
	}
	for _, r := range noRes {
		refuses(t, x, 1, r, api.MS, api.ErrRes)
		refuses(t, x, 2, r, 0, api.ErrRes)
	}
	for _, m := range noModes {
		refuses(t, x, 1, n7, m, api.ErrMode)
		refuses(t, x, 2, n7, m, api.ErrMode)
	}
	for m := api.MIS; m <= api.MX; m++ {
		refuses(t, x, 2, n7, m, api.ErrQueued)
		refuses(t, x, 2, graph, m, api.ErrQueued)
	}
}

// TestP804Resources: all forms that a resource has can be held, each for itself.
func TestP804Resources(t *testing.T) {
	x := made(t, 2)
	rs := append(list(label("z"), label("a1"), label("abcdefgh"), label("z9999999"), node(2)), asked...)
	for i, r := range rs {
		gets(t, x, 1+i%2, r, api.MX)
		same(t, "Holders", x.Holders(r), list(held(1+i%2, api.MX)))
	}
	for i, r := range rs {
		holds(t, x, 1+i%2, r, api.MX)
		holds(t, x, 2-i%2, r, 0)
	}
}

// TestP804Held: where the goal is held nothing changes; the weaker mode is no loss.
func TestP804Held(t *testing.T) {
	for have := api.MIS; have <= api.MX; have++ {
		for mode := api.MIS; mode <= api.MX; mode++ {
			x := made(t, 2)
			gets(t, x, 2, n7, have)
			before := told(x)
			gets(t, x, 2, n7, mode)
			holds(t, x, 2, n7, joinOf(have, mode))
			if after := told(x); joinOf(have, mode) == have && after != before {
				t.Errorf("behind a request for %d, where %d is held, the table is\n%s\nwas\n%s", mode, have, after, before)
			}
		}
	}
}

// TestP804HeldWoundsNobody: what is held already is granted also to one whose request would stand in others' way.
func TestP804HeldWoundsNobody(t *testing.T) {
	x := made(t, 3)
	gets(t, x, 3, n7, api.MX)
	waits(t, x, 1, n7, api.MX, 3)
	gets(t, x, 3, n7, api.MS)
	queues(t, x, n7, held(1, api.MX))
	hurt(t, x, 3, 1)
}

// TestP804Pairs: two transactions: the second one gets what fits, and waits for what does not; the elder wounds, the younger does not.
func TestP804Pairs(t *testing.T) {
	for have := api.MIS; have <= api.MX; have++ {
		for mode := api.MIS; mode <= api.MX; mode++ {
			for _, c := range [][2]int{{1, 2}, {2, 1}} {
				x := made(t, 2)
				gets(t, x, c[0], la, have)
				switch {
				case fit(have, mode):
					gets(t, x, c[1], la, mode)
					holds(t, x, c[1], la, mode)
				case c[0] == 1:
					waits(t, x, 2, la, mode)
					holds(t, x, 2, la, 0)
				default:
					waits(t, x, 1, la, mode, 2)
					holds(t, x, 1, la, 0)
				}
			}
		}
	}
}

// TestP804Queue: upgrades stand behind the other upgrades and ahead of all others; all others at the end.
func TestP804Queue(t *testing.T) {
	x := made(t, 7)
	for txn := 1; txn <= 4; txn++ {
		gets(t, x, txn, n7, api.MIS)
	}
	gets(t, x, 1, n7, api.MIX)
	waits(t, x, 5, n7, api.MS)
	waits(t, x, 6, n7, api.MX)
	waits(t, x, 3, n7, api.MS)
	waits(t, x, 7, n7, api.MSIX)
	waits(t, x, 4, n7, api.MX)
	waits(t, x, 2, n7, api.MX, 3, 4)
	queues(t, x, n7, held(3, api.MS), held(4, api.MX), held(2, api.MX), held(5, api.MS), held(6, api.MX), held(7, api.MSIX))
	same(t, "Holders", x.Holders(n7), list(held(1, api.MIX), held(2, api.MIS), held(3, api.MIS), held(4, api.MIS)))
}

// TestP804NoOvertaking: what fits all that is held waits all the same, where a request ahead does not fit it.
func TestP804NoOvertaking(t *testing.T) {
	x := made(t, 4)
	gets(t, x, 1, la, api.MS)
	waits(t, x, 2, la, api.MIX)
	waits(t, x, 4, la, api.MS)
	gets(t, x, 3, la, api.MIS)
	awaits(t, x, la, [2]int{2, 1}, [2]int{4, 2})
}

// TestP804UpgradePasses: an upgrade that fits the holders and the upgrades ahead is granted, whatever else waits.
func TestP804UpgradePasses(t *testing.T) {
	x := made(t, 3)
	gets(t, x, 1, n7, api.MIS)
	gets(t, x, 2, n7, api.MIS)
	waits(t, x, 3, n7, api.MX)
	gets(t, x, 2, n7, api.MS)
	waits(t, x, 1, n7, api.MIX, 2)
	queues(t, x, n7, held(1, api.MIX), held(3, api.MX))
}

// TestP804UpgradeWaitsForUpgrade: an upgrade waits behind one ahead that does not fit it, though all that is held fits.
func TestP804UpgradeWaitsForUpgrade(t *testing.T) {
	x := made(t, 3)
	gets(t, x, 3, n7, api.MS)
	gets(t, x, 1, n7, api.MIS)
	gets(t, x, 2, n7, api.MIS)
	waits(t, x, 2, n7, api.MIX, 3)
	waits(t, x, 1, n7, api.MS, 2)
	awaits(t, x, n7, [2]int{1, 2})
	hurt(t, x, 2, 1)
	hurt(t, x, 3, 2)
}

// TestP804Wounds: an asker wounds all younger ones in its way, by what they hold and by what they ask for; those that are wounded already are not told again, but have one wounder more.
func TestP804Wounds(t *testing.T) {
	x := made(t, 6)
	for _, txn := range []int{6, 5, 3} {
		gets(t, x, txn, n7, api.MS)
	}
	waits(t, x, 4, n7, api.MIX, 5, 6)
	waits(t, x, 2, n7, api.MX, 3, 4)
	waits(t, x, 1, n7, api.MX, 2)
	hurt(t, x, 1)
	hurt(t, x, 2, 1)
	hurt(t, x, 3, 1, 2)
	hurt(t, x, 4, 1, 2)
	hurt(t, x, 5, 1, 2, 4)
	hurt(t, x, 6, 1, 2, 4)
	awaits(t, x, n7, [2]int{1, 2}, [2]int{1, 3}, [2]int{1, 4}, [2]int{1, 5}, [2]int{1, 6})
}

// TestP804WoundedAsks: a wounded transaction may ask, gets and waits, and wounds nobody.
func TestP804WoundedAsks(t *testing.T) {
	x := made(t, 4)
	gets(t, x, 2, n7, api.MX)
	gets(t, x, 4, la, api.MX)
	waits(t, x, 1, n7, api.MS, 2)
	gets(t, x, 2, graph, api.MIX)
	waits(t, x, 2, la, api.MS)
	hurt(t, x, 4)
	queues(t, x, la, held(2, api.MS))
	ends(t, x, 4, 2)
	holds(t, x, 2, la, api.MS)
}

// TestP804WoundedUpgrade: an upgrade that goes ahead of an older one's request is wounded by it, and wounds nobody itself.
func TestP804WoundedUpgrade(t *testing.T) {
	x := made(t, 4)
	gets(t, x, 2, n7, api.MIX)
	gets(t, x, 3, n7, api.MIS)
	gets(t, x, 4, n7, api.MIX)
	waits(t, x, 1, n7, api.MS, 2, 4)
	waits(t, x, 3, n7, api.MSIX, 3)
	hurt(t, x, 3, 1)
	hurt(t, x, 4, 1) // and not by 3, which was wounded ahead of its turn
	hurt(t, x, 2, 1)
}

// TestP804WoundedPassedOver: a wounded one's request wounds nobody who comes into its way later.
func TestP804WoundedPassedOver(t *testing.T) {
	x := made(t, 4)
	gets(t, x, 3, graph, api.MIX)
	gets(t, x, 4, graph, api.MIS)
	gets(t, x, 2, n7, api.MX)
	waits(t, x, 2, graph, api.MS, 3)
	waits(t, x, 1, n7, api.MS, 2)
	gets(t, x, 4, graph, api.MIX)
	hurt(t, x, 4)
	awaits(t, x, n7, [2]int{1, 2})
}

// TestP804Ages: older is who has the lesser stamp, whatever the numbers.
func TestP804Ages(t *testing.T) {
	x := made(t, 0)
	begins(t, x, 1, math.MaxInt64)
	begins(t, x, 9, 1)
	begins(t, x, 5, 2)
	gets(t, x, 9, n7, api.MS)
	gets(t, x, 1, n7, api.MS)
	waits(t, x, 5, n7, api.MX, 1)
	awaits(t, x, n7, [2]int{5, 1}, [2]int{5, 9})
	ends(t, x, 9)
	ends(t, x, 1, 5)
}
