package locks

import (
	"slices"

	"trellis/api"
)

// partyOf: the live transaction of that number.
func (t *Table) partyOf(txn int) (*party, api.Errno) {
	if t == nil {
		return nil, api.ErrArg
	}
	p := t.live[txn]
	if p == nil {
		return nil, api.ErrTxn
	}
	return p, api.OK
}

// placeOf: what is held and asked on r; a new one, if nothing is.
func (t *Table) placeOf(r api.Res) *place {
	p := t.places[r]
	if p == nil {
		p = &place{held: map[int]int{}}
		t.places[r] = p
	}
	return p
}

// ask: a request for more than is held: is it granted or must it wait, and who is wounded by that?
func (t *Table) ask(r api.Res, q api.Held) (int, []int) {
	p := t.placeOf(r)
	ahead := p.turn(q.Txn)
	wounded := t.woundAsker(q, p.queue[ahead:])
	if !p.blocks(q, ahead) {
		t.grant(r, q)
		return api.LGranted, wounded
	}
	p.queue = slices.Insert(p.queue, ahead, q)
	asker := t.live[q.Txn]
	asker.at, asker.goal = r, q.Mode
	// A wounded asker wounds nobody: of the two lists one is empty.
	return api.LWaits, append(wounded, t.woundByAsker(q, p, ahead)...)
}

// grant: the transaction holds its goal, and has no request.
func (t *Table) grant(r api.Res, q api.Held) {
	t.places[r].held[q.Txn] = q.Mode
	p := t.live[q.Txn]
	p.held[r] = q.Mode
	p.at, p.goal = api.Res{}, 0
}

// serve: the requests on r in whose way nothing stands any more are granted, from the front: whose they were.
func (t *Table) serve(r api.Res) []int {
	p := t.places[r]
	var granted []int
	for ahead := 0; ahead < len(p.queue); {
		q := p.queue[ahead]
		if p.blocks(q, ahead) {
			ahead++
			continue
		}
		p.queue = slices.Delete(p.queue, ahead, ahead+1)
		t.grant(r, q)
		granted = append(granted, q.Txn)
	}
	if len(p.held) == 0 { // nobody waits where nothing is held
		delete(t.places, r)
	}
	return granted
}

// waitedFor: the transactions that stand in the way of that one's request, rising.
func (t *Table) waitedFor(txn int) []int {
	asker := t.live[txn]
	p := t.places[asker.at]
	q := api.Held{Txn: txn, Mode: asker.goal}
	return slices.Compact(slices.Sorted(p.inWay(q, slices.Index(p.queue, q))))
}
