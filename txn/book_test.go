package txn_test

import (
	"slices"

	"trellis/api"
	"trellis/check"
	"trellis/locks"
	"trellis/machine"
	"trellis/records"
	"trellis/rules"
	"trellis/space"
)

// A second reckoning of the manager, by the chapter's words one after the other, over a store of its own.

type bookTxn struct {
	id      int
	stamp   int64
	program []api.Query
	held    bool
	state   int
	done    int
	tables  []api.Table
	backs   int
	code    api.Errno
	set     *space.Space
	waits   []*bookTxn
}

func (x *bookTxn) over() bool { return x.state == 5 || x.state == 6 }

type book struct {
	s     *records.Store
	l     *locks.Table
	dead  bool
	known []*bookTxn
	hurt  []int // wounded in this step
}

func newBook(s *records.Store) *book { return &book{s: s, l: locks.New()} }

func (b *book) find(id int) *bookTxn {
	at := slices.IndexFunc(b.known, func(x *bookTxn) bool { return x.id == id })
	if at < 0 {
		return nil
	}
	return b.known[at]
}

func (b *book) begin(id int, stamp int64, program []api.Query, held bool) api.Errno {
	if id < 1 || stamp < 1 {
		return api.ErrArg
	}
	for _, x := range b.known {
		if x.id == id || !x.over() && x.stamp == stamp {
			return api.ErrTxn
		}
	}
	if len(program) == 0 {
		return api.ErrIdle
	}
	if _, err := check.Program(program); err != nil {
		return api.ErrCode
	}
	x := &bookTxn{id: id, stamp: stamp, program: program, held: held, state: 2}
	b.l.Begin(id, stamp)
	x.set = space.New(bookView{b, id})
	b.known = append(b.known, x)
	return api.OK
}

// end: locks.End; the woken are ready.
func (b *book) end(x *bookTxn) []int {
	woken, hurt, _ := b.l.End(x.id)
	b.hurt = append(b.hurt, hurt...)
	for _, id := range woken {
		b.find(id).state = 2
	}
	x.set = nil
	return woken
}

func (b *book) step(id int) (api.Step, api.Errno) {
	x := b.find(id)
	if x == nil {
		return api.Step{}, api.ErrNoTxn
	}
	if x.over() {
		return api.Step{}, api.ErrDone
	}
	if _, code := b.s.Commits(); b.dead || code == api.ErrPower {
		b.dead = true
		return api.Step{}, api.ErrPower
	}
	b.hurt = nil
	out, code := b.act(x)
	if code != api.OK {
		return api.Step{}, code
	}
	slices.Sort(b.hurt)
	out.Wounded = slices.Compact(b.hurt)
	return out, api.OK
}

func (b *book) act(x *bookTxn) (api.Step, api.Errno) {
	// 1
	if x.state == 4 {
		for _, y := range x.waits {
			if !y.over() {
				return api.Step{What: 3}, api.OK
			}
		}
		b.l.Begin(x.id, x.stamp)
		x.set = space.New(bookView{b, x.id})
		x.state = 2
		return b.run(x)
	}
	// 2
	if is, _ := b.l.Wounded(x.id); is {
		by, _ := b.l.Wounders(x.id)
		x.waits = nil
		for _, y := range b.known {
			if slices.Contains(by, y.id) && !y.over() && y.stamp < x.stamp {
				x.waits = append(x.waits, y)
			}
		}
		woken := b.end(x)
		x.tables, x.done, x.state = nil, 0, 4
		x.backs++
		return api.Step{What: 4, Woken: woken}, api.OK
	}
	// 3
	if x.state == 3 {
		return api.Step{What: 3}, api.OK
	}
	// 4
	if x.done < len(x.program) {
		return b.run(x)
	}
	// 5
	return b.commit(x)
}

func (b *book) run(x *bookTxn) (api.Step, api.Errno) {
	c, _ := machine.Compile(x.program[x.done])
	table, code := c.Run(x.set, api.MaxFuel)
	switch code {
	case api.OK:
		x.tables = append(x.tables, table)
		x.done++
		return api.Step{What: 1}, api.OK
	case api.ErrBlocked:
		x.state = 3
		return api.Step{What: 2}, api.OK
	}
	return b.fail(x, code, false)
}

func (b *book) fail(x *bookTxn, code api.Errno, applied bool) (api.Step, api.Errno) {
	woken := b.end(x)
	if x.held && !applied {
		b.s.Release()
	}
	x.state, x.code = 6, code
	return api.Step{What: 6, Code: code, Woken: woken}, api.OK
}

func (b *book) commit(x *bookTxn) (api.Step, api.Errno) {
	delta := x.set.Delta()
	if !deltaIsEmpty(delta) {
		g, _ := b.s.Graph()
		m, _ := space.Load(g)
		m.Apply(delta)
		if _, code := rules.Check(m.Graph()); code != api.OK {
			return b.fail(x, code, false)
		}
	}
	got, code := b.s.Apply(delta, x.held, true)
	switch code {
	case api.OK:
		woken := b.end(x)
		x.state = 5
		return api.Step{What: 5, Lsn: got.Lsn, Woken: woken}, api.OK
	case api.ErrPower:
		b.dead = true
		return api.Step{}, api.ErrPower
	}
	return b.fail(x, code, true)
}

func deltaIsEmpty(x api.Delta) bool {
	return len(x.DelEdges) == 0 && len(x.DelNodes) == 0 && len(x.NewNodes) == 0 && len(x.NewEdges) == 0 && len(x.SetNodes) == 0 && len(x.SetEdges) == 0
}

func (b *book) stat(id int) (api.TxnStat, api.Errno) {
	x := b.find(id)
	if x == nil {
		return api.TxnStat{}, api.ErrNoTxn
	}
	return api.TxnStat{Id: id, Stamp: x.stamp, State: x.state, Done: x.done, Backs: x.backs, Code: x.code}, api.OK
}

func (b *book) tables(id int) ([]api.Table, api.Errno) {
	x := b.find(id)
	if x == nil {
		return nil, api.ErrNoTxn
	}
	return x.tables, api.OK
}

func (b *book) wounded(id int) (bool, api.Errno) {
	x := b.find(id)
	switch {
	case x == nil:
		return false, api.ErrNoTxn
	case x.state == 4:
		return true, api.OK
	case x.over():
		return false, api.OK
	}
	return b.l.Wounded(id)
}

func (b *book) live() (out []int) {
	for _, x := range b.known {
		if !x.over() {
			out = append(out, x.id)
		}
	}
	slices.Sort(out)
	return out
}

func (b *book) forget(id int) api.Errno {
	x := b.find(id)
	switch {
	case x == nil:
		return api.ErrNoTxn
	case !x.over():
		return api.ErrInside
	}
	b.known = slices.DeleteFunc(b.known, func(y *bookTxn) bool { return y == x })
	return api.OK
}

// bookView: the locked view.
type bookView struct {
	b  *book
	id int
}

func (v bookView) ask(r api.Res, mode int) api.Errno {
	state, hurt, code := v.b.l.Ask(v.id, r, mode)
	v.b.hurt = append(v.b.hurt, hurt...)
	if code == api.OK && state == api.LWaits {
		return api.ErrBlocked
	}
	return code
}

func (v bookView) under(r api.Res) bool {
	mode, _ := v.b.l.Mode(v.id, r)
	return mode == api.MS || mode == api.MSIX || mode == api.MX
}

func (v bookView) read(id int64) api.Errno {
	n, code := v.b.s.Node(id)
	if code == api.ErrNoNode || v.under(graph) {
		return api.OK
	}
	if code := v.ask(graph, api.MIS); code != api.OK {
		return code
	}
	if v.under(label(n.Label)) {
		return api.OK
	}
	if code := v.ask(label(n.Label), api.MIS); code != api.OK {
		return code
	}
	return v.ask(node(id), api.MS)
}

func (v bookView) scan(name string) api.Errno {
	if name == "" {
		return v.ask(graph, api.MS)
	}
	if v.under(graph) {
		return api.OK
	}
	if code := v.ask(graph, api.MIS); code != api.OK {
		return code
	}
	return v.ask(label(name), api.MS)
}

func (v bookView) Nodes(name string) ([]int64, api.Errno) {
	if code := v.scan(name); code != api.OK {
		return nil, code
	}
	return v.b.s.Nodes(name)
}

func (v bookView) Find(name, key string, of api.Val) ([]int64, api.Errno) {
	if code := v.scan(name); code != api.OK {
		return nil, code
	}
	return v.b.s.Find(name, key, of)
}

func (v bookView) Node(id int64) (api.Node, api.Errno) {
	if code := v.read(id); code != api.OK {
		return api.Node{}, code
	}
	return v.b.s.Node(id)
}

func (v bookView) Edge(id int64) (api.Edge, api.Errno) {
	e, code := v.b.s.Edge(id)
	if code != api.OK {
		return e, code
	}
	if code := v.read(e.From); code != api.OK {
		return api.Edge{}, code
	}
	return v.b.s.Edge(id)
}

func (v bookView) Out(id int64) ([]int64, api.Errno) {
	if code := v.read(id); code != api.OK {
		return nil, code
	}
	return v.b.s.Out(id)
}

func (v bookView) In(id int64) ([]int64, api.Errno) {
	if code := v.read(id); code != api.OK {
		return nil, code
	}
	return v.b.s.In(id)
}

// Hold: as a space asks it: MIX on a label, MX on a node. (view_test.go has the rest.)
func (v bookView) Hold(r api.Res, mode int) api.Errno {
	if r.Level == api.RNode {
		n, code := v.b.s.Node(r.Id)
		if code != api.OK {
			return code
		}
		for _, x := range []api.Res{graph, label(n.Label)} {
			if code := v.ask(x, api.MIX); code != api.OK {
				return code
			}
		}
		return v.ask(r, mode)
	}
	if code := v.ask(graph, api.MIX); code != api.OK {
		return code
	}
	return v.ask(r, mode)
}
