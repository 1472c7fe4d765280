package locks

import (
	"slices"

	"trellis/api"
)

// Behind every call each younger one that stands in the way of an unwounded one's request has been wounded by it. An Ask changes only in whose way the asker stands, and who stands in its: the rest of the wound sweep finds nothing new. An End puts nobody in anybody's way, for what it grants fits all that stands ahead, and stood ahead of the rest before: its wound sweep finds nothing at all.

// woundAsker: the older ones whose requests stand behind that of the asker, or behind where it would stand, wound the asker: it alone is told, if it was not wounded until now.
func (t *Table) woundAsker(q api.Held, behind []api.Held) []int {
	asker := t.live[q.Txn]
	var out []int
	for _, other := range behind {
		by := t.live[other.Txn]
		if by.stamp < asker.stamp && !by.isWounded() && !Fits(q.Mode, other.Mode) && asker.wound(other.Txn) {
			out = append(out, q.Txn)
		}
	}
	return out
}

// woundByAsker: an asker that must wait wounds the younger ones in its way: those that were not wounded until now, rising.
func (t *Table) woundByAsker(q api.Held, p *place, ahead int) []int {
	asker := t.live[q.Txn]
	if asker.isWounded() {
		return nil
	}
	var out []int
	for txn := range p.inWay(q, ahead) {
		if u := t.live[txn]; u.stamp > asker.stamp && u.wound(q.Txn) {
			out = append(out, txn)
		}
	}
	slices.Sort(out)
	return out
}
