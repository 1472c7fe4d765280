package value

import (
	"cmp"
	"strings"

	"trellis/api"
)

// ranks: where the values of each kind stand in the order of all values.
var ranks = [...]int{
	api.KNode: 0,
	api.KEdge: 1,
	api.KStr:  2,
	api.KBool: 3,
	api.KInt:  4,
	api.KCpx:  4,
	api.KNull: 5,
}

// compare: what a kind does not use is the same in all its values, so one list of fields serves all kinds. (Of two kinds of one rank, the numbers, KInt is the lesser.)
func compare(x, y item) int {
	a, b := x.val(), y.val()
	return cmp.Or(
		cmp.Compare(ranks[a.Kind], ranks[b.Kind]),
		cmp.Compare(a.A, b.A),
		cmp.Compare(a.Kind, b.Kind),
		cmp.Compare(a.B, b.B),
		strings.Compare(a.S, b.S),
	)
}
