package locks

import (
	"cmp"
	"iter"
	"slices"
	"strings"

	"trellis/api"
	"trellis/value"
)

// isRes: is r of one of the forms that a resource has?
func isRes(r api.Res) bool {
	switch r.Level {
	case api.RGraph:
		return r == api.Res{Level: api.RGraph}
	case api.RLabel:
		return value.Name(r.Label) && r == api.Res{Level: api.RLabel, Label: r.Label}
	case api.RNode:
		return r.Id >= 1 && r == api.Res{Level: api.RNode, Id: r.Id}
	}
	return false
}

// inOrder: the order of resources.
func inOrder(a, b api.Res) int {
	return cmp.Or(cmp.Compare(a.Level, b.Level), strings.Compare(a.Label, b.Label), cmp.Compare(a.Id, b.Id))
}

// place: what is held and asked on one resource.
type place struct {
	held  map[int]int // the modes, by transaction
	queue []api.Held  // the requests, from the front, each with its goal
}

// turn: how many requests stand ahead of one that the transaction makes now.
func (p *place) turn(txn int) int {
	if p.held[txn] == 0 {
		return len(p.queue)
	}
	// Those that hold a mode here and ask are the upgrades: who waits gets and loses nothing until it is granted.
	n := 0
	for n < len(p.queue) && p.held[p.queue[n].Txn] != 0 {
		n++
	}
	return n
}

// inWay: the transactions that stand in the way of a request with that many others ahead; in no order, and some of them twice.
func (p *place) inWay(q api.Held, ahead int) iter.Seq[int] {
	return func(yield func(int) bool) {
		for txn, mode := range p.held {
			if txn != q.Txn && !Fits(mode, q.Mode) && !yield(txn) {
				return
			}
		}
		for _, other := range p.queue[:ahead] {
			if !Fits(other.Mode, q.Mode) && !yield(other.Txn) {
				return
			}
		}
	}
}

// blocks: does anything stand in the way of that request?
func (p *place) blocks(q api.Held, ahead int) bool {
	for range p.inWay(q, ahead) {
		return true
	}
	return false
}

// leave: the transaction holds and asks for nothing here.
func (p *place) leave(txn int) {
	delete(p.held, txn)
	p.queue = slices.DeleteFunc(p.queue, func(q api.Held) bool { return q.Txn == txn })
}
