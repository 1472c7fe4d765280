package server_test

import (
	"bytes"
	"fmt"
	"slices"
	"testing"

	"trellis/api"
	"trellis/check"
	"trellis/disk"
	"trellis/gate"
	"trellis/records"
	"trellis/server"
	"trellis/syntax"
	"trellis/txn"
	"trellis/wal"
)

// entry: a number that was submitted since the server came up.
type entry struct {
	id      int
	where   string // "queued", "inside" or "ended"
	stamp   int64
	program []api.Query
}

// book: a second reckoning of the server, by the chapter's words one after the other, over layers of its own.
type book struct {
	d           *disk.Disk
	s           *records.Store
	g           *gate.Gate
	m           *txn.Manager
	up          bool
	units, most int
	list        []*entry
}

func (b *book) find(id int) *entry {
	at := slices.IndexFunc(b.list, func(x *entry) bool { return x.id == id })
	if at < 0 {
		return nil
	}
	return b.list[at]
}

func (b *book) down() {
	b.up, b.s, b.g, b.m, b.list = false, nil, nil, nil, nil
}

func (b *book) rise(s *records.Store) {
	b.down()
	b.up, b.s, b.m = true, s, txn.New(s)
	b.g, _ = gate.New(b.most, b.units)
}

func (b *book) entering() {
	for _, id := range b.g.Admit() {
		x := b.find(id)
		if code := b.s.Reserve(); code != api.OK {
			panic(fmt.Sprint("P5: Reserve: ", int(code)))
		}
		if code := b.m.Begin(id, x.stamp, x.program, true); code != api.OK {
			panic(fmt.Sprint("Begin: ", int(code)))
		}
		x.where, x.program = "inside", nil
	}
}

func is(code api.Errno, nums ...int64) api.Reply { return api.Reply{Code: code, Nums: nums} }

func outside(id, from int64) bool { return id < from || id > 1073741824 }

// reply: what the request does, and what is told.
func (b *book) reply(q api.Request) api.Reply {
	out := b.act(q)
	out.To = q.Kind
	return out
}

func (b *book) act(q api.Request) api.Reply {
	n := append(slices.Clone(q.Nums), 0)
	switch q.Kind {
	case 1:
		return b.format(n)
	case 2:
		return b.open()
	case 6:
		if b.d == nil {
			return is(api.ErrNoStore)
		}
		if n[0] < 0 || n[0] > 65536 {
			return is(api.ErrArg)
		}
		return is(b.d.Cut(int(n[0])))
	case 7:
		if b.d == nil {
			return is(api.ErrNoStore)
		}
		b.d.Crash(q.Bits)
		b.down()
		return is(api.OK)
	case 9:
		return b.status()
	}
	if !b.up {
		return is(api.ErrDown)
	}
	switch q.Kind {
	case 3:
		return b.submit(n[0], q.Text)
	case 4:
		if outside(n[0], 0) {
			return is(api.ErrArg)
		}
		r, _ := b.pick(int(n[0]))
		return r
	case 5:
		return b.run(n[0])
	case 8:
		return b.result(n[0], n[1])
	case 10:
		g, code := b.s.Graph()
		return api.Reply{Code: code, Graph: g}
	case 11:
		var r api.Reply
		for _, w := range b.m.Waits() {
			r.Nums = append(r.Nums, int64(w.From), int64(w.To), int64(w.Res.Level), w.Res.Id)
			r.Texts = append(r.Texts, w.Res.Label)
		}
		return r
	}
	return b.forget(n[0])
}

func (b *book) format(n []int64) api.Reply {
	sectors := sectorsOf(n)
	if sectors == 0 {
		return is(api.ErrArg)
	}
	pages := 1 + n[0] + n[1] + n[2] + n[3]
	b.d, _ = disk.New(int(sectors))
	code := records.Format(b.d, int(2+n[4]*int64(wal.Need(int(2+122*pages)))), api.Sizes{Node: int(n[0]), Edge: int(n[1]), Prop: int(n[2]), Tree: int(n[3])})
	s, fault := records.Open(b.d)
	if code != api.OK || fault != api.OK {
		panic(fmt.Sprint("a format that fails: ", int(code), int(fault)))
	}
	b.units, b.most = int(n[4]), int(n[5])
	b.rise(s)
	return is(api.OK, sectors)
}

func (b *book) open() api.Reply {
	if b.d == nil {
		return is(api.ErrNoStore)
	}
	if b.up {
		return is(api.ErrUp)
	}
	s, code := records.Open(b.d)
	if code != api.OK {
		return is(code)
	}
	redone := s.Stat().Redone
	if x := s.Stat(); x.Pages > 256 || x.Log.Live+x.Log.Reserved+x.Log.Free < b.units*wal.Need(2+122*x.Pages) {
		return is(api.ErrCap)
	}
	if _, code := s.Checkpoint(1024); code != api.OK {
		return is(code)
	}
	b.rise(s)
	commits, _ := s.Commits()
	return is(api.OK, commits, int64(redone))
}

func (b *book) status() api.Reply {
	if b.d == nil {
		return is(api.OK, 0, 0, 0, 0)
	}
	if !b.up {
		return is(api.OK, 1, 0, 0, 0)
	}
	commits, _ := b.s.Commits()
	r := is(api.OK, 2, commits)
	for _, list := range [][]int{b.g.Stat().Inside, b.g.Stat().Queue} {
		r.Nums = append(r.Nums, int64(len(list)))
		for _, id := range list {
			r.Nums = append(r.Nums, int64(id))
		}
	}
	return r
}

func (b *book) submit(id int64, text string) api.Reply {
	if outside(id, 1) {
		return is(api.ErrArg)
	}
	if b.find(int(id)) != nil {
		return is(api.ErrInside)
	}
	program, code, at := syntax.Program(text)
	if code != api.OK {
		return is(code, int64(at))
	}
	number, err := check.Program(program)
	if err != nil {
		return is(api.Code(err), int64(number))
	}
	stamp, code := b.g.Submit(int(id))
	if code != api.OK {
		return is(code)
	}
	b.list = append(b.list, &entry{int(id), "queued", stamp, program})
	b.entering()
	return is(api.OK, stamp)
}

// pick: what is told, and whether it was a step that ended a transaction: api.TCommitted, api.TFailed, or 0.
func (b *book) pick(id int) (api.Reply, int) {
	if id == 0 {
		if _, code := b.s.Checkpoint(1024); code != api.OK {
			b.down()
			return is(code), 0
		}
		b.g.Swept()
		b.g.Picked(0)
		b.entering()
		return is(api.OK), 0
	}
	x := b.find(id)
	switch {
	case x == nil:
		return is(api.ErrNoTxn), 0
	case x.where == "ended":
		return is(api.ErrDone), 0
	case x.where == "queued":
		return is(api.OK, 3, 0, 0, 0), 0
	}
	s, code := b.m.Step(id)
	if code != api.OK {
		b.down()
		return is(code), 0
	}
	b.g.Picked(id)
	ended := 0
	if s.What == 5 || s.What == 6 {
		b.g.End(id, s.Lsn != 0)
		x.where, ended = "ended", s.What
	}
	b.entering()
	r := is(api.OK, int64(s.What), int64(s.Code))
	for _, list := range [][]int{s.Woken, s.Wounded} {
		r.Nums = append(r.Nums, int64(len(list)))
		for _, other := range list {
			r.Nums = append(r.Nums, int64(other))
		}
	}
	return r, ended
}

func (b *book) run(n int64) api.Reply {
	if n < 0 || n > 65536 {
		return is(api.ErrArg)
	}
	r := is(api.OK, 0)
	for range n {
		if !slices.ContainsFunc(b.list, func(x *entry) bool { return x.where != "ended" }) {
			break
		}
		id := b.g.Next()
		told, ended := b.pick(id)
		if told.Code != api.OK {
			r.Code = told.Code
			break
		}
		r.Nums[0]++
		switch ended {
		case 5:
			r.Nums = append(r.Nums, int64(id))
		case 6:
			r.Nums = append(r.Nums, -int64(id))
		}
	}
	return r
}

func (b *book) result(id, k int64) api.Reply {
	if outside(id, 1) || k < -1 {
		return is(api.ErrArg)
	}
	x := b.find(int(id))
	if x == nil {
		return is(api.ErrNoTxn)
	}
	var tables []api.Table
	r := is(api.OK, 1, 0, 0, 0, x.stamp, 0)
	if x.where != "queued" {
		tables, _ = b.m.Tables(x.id)
		s, _ := b.m.Stat(x.id)
		r.Nums = []int64{int64(s.State), int64(s.Code), int64(s.Done), int64(s.Backs), s.Stamp, 0}
		if hurt, _ := b.m.Wounded(x.id); hurt {
			r.Nums[5] = 1
		}
	}
	if k >= int64(len(tables)) {
		return is(api.ErrTable)
	}
	if k >= 0 {
		r.Tables = []api.Table{tables[k]}
	}
	return r
}

func (b *book) forget(id int64) api.Reply {
	if outside(id, 1) {
		return is(api.ErrArg)
	}
	x := b.find(int(id))
	if x == nil {
		return is(api.ErrNoTxn)
	}
	if x.where != "ended" {
		return is(api.ErrInside)
	}
	b.m.Forget(x.id)
	b.list = slices.DeleteFunc(b.list, func(y *entry) bool { return y == x })
	return is(api.OK)
}

// TestP1701Drawn: drawn requests of all kinds: the server tells what the words say, and its disk has what they say.
func TestP1701Drawn(t *testing.T) {
	count := map[string]int{}
	for seed := range int64(150) {
		d := newDraw(seed)
		c, b := newClient(t), &book{}
		if seed%10 > 0 {
			nums := []int64{3, 3, 8, 12, 1 + d.Int63n(6), 1 + d.Int63n(5)}
			c.do(api.DoFormat, nums...)
			b.reply(api.Request{Kind: api.DoFormat, Nums: nums})
		}
		for range 250 {
			q := d.request()
			got, want := c.ask(q), b.reply(q)
			if told(got) != told(want) {
				c.fail("seed %d: %s: %+v, want %+v", seed, askedText(q), got, want)
			}
			if image := b.d.Image(); !bytes.Equal(c.s.Image(), image) {
				c.fail("seed %d: %s: another disk", seed, askedText(q))
			}
			count[fmt.Sprint(q.Kind, " ", int(got.Code))]++
		}
	}
	for _, what := range []string{
		"1 0", "1 1", "2 0", "2 171", "3 0", "3 1", "3 101", "3 110", "3 151", "3 170", "4 0", "4 1", "4 2", "4 140", "4 141", "4 170",
		"5 0", "5 1", "5 2", "5 170", "6 0", "6 1", "6 2", "7 0", "8 0", "8 1", "8 140", "8 170", "8 172", "9 0", "10 0", "10 170", "11 0", "11 170", "12 0", "12 1", "12 140", "12 151", "12 170",
	} {
		if count[what] == 0 {
			t.Errorf("none of the drawn requests is answered %s: %v", what, count)
		}
	}
}

// TestP1702Drawn: the same requests in one piece, and in many: the same replies. And twice the same.
func TestP1702Drawn(t *testing.T) {
	for seed := range int64(40) {
		d := newDraw(1000 + seed)
		in := bytesOf(t, api.Request{Kind: api.DoFormat, Nums: []int64{2, 2, 4, 6, 4, 4}})
		for range 100 {
			in = append(in, bytesOf(t, d.request())...)
			if d.one(20) {
				in = append(in, byte(d.Intn(256)))
			}
		}
		want := server.Play(in)
		if !bytes.Equal(server.Play(in), want) {
			t.Fatalf("seed %d: played twice, other replies", seed)
		}
		s := server.New()
		var got []byte
		for rest := in; len(rest) > 0; {
			n := 1 + d.Intn(min(len(rest), 60))
			got = append(got, s.Feed(rest[:n])...)
			rest = rest[n:]
		}
		if !bytes.Equal(got, want) {
			t.Fatalf("seed %d: in pieces, other replies", seed)
		}
	}
}
