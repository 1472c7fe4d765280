package txn

import (
	"errors"
	"slices"

	"trellis/api"
	"trellis/machine"
	"trellis/rules"
	"trellis/space"
)

// transaction: one that is known. What it needs only while it is live is dropped when it ends.
type transaction struct {
	*claims
	stamp  int64
	codes  []*machine.Code // its program
	held   bool
	state  int
	tables []api.Table // of the queries that ran
	backs  int
	code   api.Errno
	space  *space.Space   // its write set, while it is in the lock table
	awaits []*transaction // those for whose end it is held back
}

// compiled: the codes of a program that makes sense.
func compiled(program []api.Query) []*machine.Code {
	var out []*machine.Code
	for _, q := range program {
		c, _ := machine.Compile(q)
		out = append(out, c)
	}
	return out
}

func (t *transaction) ended() bool { return t.state == api.SCommitted || t.state == api.SFailed }

// move: what a step may be: the first that fits the transaction is done.
type move struct {
	fits func(t *transaction) bool
	do   func(t *transaction) (api.Step, api.Errno)
}

// movesInOrder: a wounded one goes back, whether it waits or not; the last one fits all that are left.
func (m *Manager) movesInOrder() []move {
	in := func(state int) func(*transaction) bool {
		return func(t *transaction) bool { return t.state == state }
	}
	return []move{
		{fits: in(api.SHeldBack), do: m.comeBack},
		{fits: func(t *transaction) bool { return t.isWounded() }, do: m.goBack},
		{fits: in(api.SWaiting), do: idle},
		{fits: func(t *transaction) bool { return len(t.tables) < len(t.codes) }, do: m.query},
		{fits: in(api.SReady), do: m.commit},
	}
}

// step: of a live transaction, with power.
func (m *Manager) step(t *transaction) (api.Step, api.Errno) {
	at := slices.IndexFunc(m.moves, func(x move) bool { return x.fits(t) })
	out, code := m.moves[at].do(t)
	if code != api.OK {
		return api.Step{}, code
	}
	out.Wounded = t.tellWounded()
	return out, api.OK
}

// idle: nothing changes.
func idle(*transaction) (api.Step, api.Errno) { return api.Step{What: api.TIdle}, api.OK }

// start: the transaction begins, or begins again.
func (m *Manager) start(t *transaction) {
	m.table.Begin(t.number, t.stamp)
	t.space = space.New(lockedView{footing{View: m.store, claims: t.claims}})
	t.state = api.SReady
}

// comeBack: one that is held back begins again, and runs at once, if all for whom it waited have ended.
func (m *Manager) comeBack(t *transaction) (api.Step, api.Errno) {
	if slices.ContainsFunc(t.awaits, func(other *transaction) bool { return !other.ended() }) {
		return idle(t)
	}
	t.awaits = nil
	m.start(t)
	return m.query(t)
}

// goBack: a wounded one is undone, and held back by those that wounded it.
func (m *Manager) goBack(t *transaction) (api.Step, api.Errno) {
	t.awaits = m.olderWounders(t)
	t.tables = nil
	t.backs++
	return api.Step{What: api.TBack, Woken: m.leave(t, api.SHeldBack)}, api.OK
}

// olderWounders: the live transactions that have the numbers of its wounders now, and are older.
func (m *Manager) olderWounders(t *transaction) []*transaction {
	numbers, _ := m.table.Wounders(t.number)
	var out []*transaction
	for _, number := range numbers {
		if by := m.known[number]; by != nil && !by.ended() && by.stamp < t.stamp {
			out = append(out, by)
		}
	}
	return out
}

// leave: the transaction is in the lock table no more, its write set is dropped, and it is in that state: whom that wakes.
func (m *Manager) leave(t *transaction, state int) []int {
	t.space, t.state = nil, state
	woken := t.end()
	for _, id := range woken {
		m.known[id].state = api.SReady
	}
	return woken
}

// query: the next query runs.
func (m *Manager) query(t *transaction) (api.Step, api.Errno) {
	table, code := t.codes[len(t.tables)].Run(t.space, api.MaxFuel)
	if errors.Is(code, api.ErrBlocked) {
		t.state = api.SWaiting
		return api.Step{What: api.TWaits}, api.OK
	}
	if code != api.OK {
		return m.fail(t, code, t.held)
	}
	t.tables = append(t.tables, table)
	return api.Step{What: api.TRan}, api.OK
}

// fail: the transaction ends without a trace. release: what was set aside for it is to be given back.
func (m *Manager) fail(t *transaction, code api.Errno, release bool) (api.Step, api.Errno) {
	if release {
		m.store.Release()
	}
	t.code, t.codes = code, nil
	return api.Step{What: api.TFailed, Code: code, Woken: m.leave(t, api.SFailed)}, api.OK
}

// commit: what it has changed is there, and lasts, unless a rule would be broken or the store does not bear it.
func (m *Manager) commit(t *transaction) (api.Step, api.Errno) {
	change := t.space.Delta()
	code := m.breaks(change)
	sound := code == api.OK
	var got api.Applied
	if sound {
		got, code = m.store.Apply(change, t.held, true) // what was set aside is its own to give back
	}
	switch {
	case errors.Is(code, api.ErrPower):
		m.dead = true
		return api.Step{}, code
	case code != api.OK:
		return m.fail(t, code, t.held && !sound)
	}
	t.codes = nil
	return api.Step{What: api.TCommitted, Lsn: got.Lsn, Woken: m.leave(t, api.SCommitted)}, api.OK
}

// breaks: the error, if the graph would not keep its rules behind the change.
func (m *Manager) breaks(change api.Delta) api.Errno {
	if isEmpty(change) {
		return api.OK
	}
	now, code := m.store.Graph()
	if code != api.OK {
		return code
	}
	then, code := space.Load(now)
	if code != api.OK {
		return code
	}
	if _, code := then.Apply(change); code != api.OK {
		return code
	}
	_, code = rules.Check(then.Graph())
	return code
}

func isEmpty(x api.Delta) bool {
	return len(x.DelEdges)+len(x.DelNodes)+len(x.NewNodes)+len(x.NewEdges)+len(x.SetNodes)+len(x.SetEdges) == 0
}
