package locks

import (
	"testing"

	"trellis/api"
)

// TestP805Deleted: what is empty is not kept: behind the last End nothing of all that was asked for is left.
func TestP805Deleted(t *testing.T) {
	x := New()
	for txn := 1; txn <= 4; txn++ {
		x.Begin(txn, int64(txn))
		x.Ask(txn, api.Res{Level: api.RGraph}, api.MIS)
		x.Ask(txn, api.Res{Level: api.RNode, Id: int64(txn)}, api.MX)
		x.Ask(txn, api.Res{Level: api.RLabel, Label: "a"}, api.MX)
	}
	for txn := 1; txn <= 4; txn++ {
		if len(x.places) != 2+5-txn || len(x.live) != 5-txn {
			t.Errorf("ahead of the end of %d there are %d resources, %d transactions", txn, len(x.places), len(x.live))
		}
		x.End(txn)
	}
	if len(x.places)+len(x.live) != 0 {
		t.Errorf("behind all ends there are %d resources, %d transactions", len(x.places), len(x.live))
	}
}

// TestP801Refused: an Ask that is refused leaves nothing.
func TestP801Refused(t *testing.T) {
	x := New()
	x.Begin(1, 1)
	x.Ask(1, api.Res{Level: api.RGraph}, 0)
	x.Ask(1, api.Res{Level: api.RNode}, api.MX)
	x.Ask(2, api.Res{Level: api.RGraph}, api.MX)
	x.Mode(1, api.Res{Level: api.RGraph})
	x.Holders(api.Res{Level: api.RGraph})
	if len(x.places) != 0 {
		t.Errorf("%d resources are kept of which nothing is held", len(x.places))
	}
}
