package server

import (
	"trellis/api"
	"trellis/gate"
	"trellis/records"
	"trellis/txn"
)

// sweeper: the number that is picked for a sweep.
const sweeper = 0

// maxNumber: the greatest number that a transaction may have.
const maxNumber = 1 << 30

// isNumber: may a transaction have that number?
func isNumber(id int64) bool { return id >= 1 && id <= maxNumber }

// engine: what a server has while it is up. Who is inside or has ended txn knows; who is queued does not stand there yet.
type engine struct {
	store *records.Store
	gate  *gate.Gate
	txns  *txn.Manager
	queue map[int]queued
}

// queued: one that the gate has not let in yet: with what it will begin.
type queued struct {
	stamp   int64
	program []api.Query
}

// rise: the server is up, over that store, without a transaction.
func (s *Server) rise(store *records.Store) {
	g, _ := gate.New(s.most, s.units) // both were looked at when they came
	s.up = &engine{store: store, gate: g, txns: txn.New(store), queue: map[int]queued{}}
}

// stat: where a transaction stands; all zero: its number is not known.
func (e *engine) stat(id int) api.TxnStat {
	if q, is := e.queue[id]; is {
		return api.TxnStat{Id: id, Stamp: q.stamp, State: api.SQueued}
	}
	stat, _ := e.txns.Stat(id)
	return stat
}

// isBusy: is some transaction queued or inside?
func (e *engine) isBusy() bool {
	now := e.gate.Stat()
	return len(now.Inside)+len(now.Queue) > 0
}

// enter: those whom the gate lets in begin, each with room in the log for its commit: the gate counts the units, so that there is.
func (e *engine) enter() {
	for _, id := range e.gate.Admit() {
		q := e.queue[id]
		delete(e.queue, id)
		e.store.Reserve()
		e.txns.Begin(id, q.stamp, q.program, true)
	}
}

// turn: the sweeper, or a transaction that is inside, goes one step. With an error the server is down.
func (s *Server) turn(id int) (api.Step, api.Errno) {
	step, code := s.up.move(id)
	if code != api.OK {
		s.up = nil
		return api.Step{}, code
	}
	s.up.gate.Picked(id)
	if step.What == api.TCommitted || step.What == api.TFailed {
		s.up.gate.End(id, step.Lsn != 0)
	}
	s.up.enter()
	return step, api.OK
}

// move: what a turn does, but for the gate's turns.
func (e *engine) move(id int) (api.Step, api.Errno) {
	if id != sweeper {
		return e.txns.Step(id)
	}
	_, code := e.store.Checkpoint(api.MaxPages)
	if code == api.OK {
		e.gate.Swept()
	}
	return api.Step{}, code
}
