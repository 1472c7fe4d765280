package server_test

import (
	"fmt"
	"slices"
	"strings"
	"testing"

	"trellis/api"
	"trellis/server"
	"trellis/value"
	"trellis/wire"
)

// client: speaks the wire with a server of its own.
type client struct {
	t   *testing.T
	s   *server.Server
	log []string // what was asked and answered, for a test that fails
}

func newClient(t *testing.T) *client {
	t.Helper()
	s := server.New()
	if s == nil {
		t.Fatal("New() = nil")
	}
	return &client{t: t, s: s}
}

// small: a server that is up, with room for 10 nodes, 6 edges, 8 properties and 4 keys of the index; two inside, three units.
func small(t *testing.T) *client {
	t.Helper()
	c := newClient(t)
	c.gives(64, c.do(api.DoFormat, 2, 2, 4, 4, 3, 2))
	return c
}

// wide: a server that is up, with more room; so many inside, so many units.
func wide(t *testing.T, units, most int64) *client {
	t.Helper()
	c := newClient(t)
	if r := c.do(api.DoFormat, 6, 6, 10, 16, units, most); r.Code != api.OK {
		t.Fatalf("DoFormat: %+v", r)
	}
	return c
}

// over: a client of a server over that image.
func over(t *testing.T, image []byte, units, most int) *client {
	t.Helper()
	s, code := server.Over(image, units, most)
	if s == nil || code != api.OK {
		t.Fatalf("Over: %v, %d", s, code)
	}
	return &client{t: t, s: s}
}

// bytesOf: the frames of requests, one behind the other.
func bytesOf(t *testing.T, list ...api.Request) []byte {
	t.Helper()
	var out []byte
	for _, q := range list {
		b, code := wire.PutRequest(q)
		if code != api.OK {
			t.Fatalf("PutRequest(%+v): %d", q, code)
		}
		out = append(out, b...)
	}
	return out
}

// repliesOf: the replies that stand in bytes; each byte belongs to one.
func repliesOf(t *testing.T, b []byte) []api.Reply {
	t.Helper()
	r := wire.NewReader()
	var out []api.Reply
	for _, f := range r.Feed(b) {
		reply, code := wire.GetReply(f)
		if code != api.OK {
			t.Fatalf("a reply that cannot be read: %d", code)
		}
		out = append(out, reply)
	}
	if r.Left() != 0 {
		t.Fatalf("%d bytes behind the last reply", r.Left())
	}
	return out
}

// ask: a request, and the one reply to it.
func (c *client) ask(q api.Request) api.Reply {
	c.t.Helper()
	list := repliesOf(c.t, c.s.Feed(bytesOf(c.t, q)))
	if len(list) != 1 || list[0].To != q.Kind {
		c.t.Fatalf("the replies to %+v: %+v", q, list)
	}
	c.log = append(c.log, fmt.Sprintf("%s -> %s", askedText(q), repliedText(list[0])))
	return list[0]
}

func (c *client) do(kind int, nums ...int64) api.Reply {
	c.t.Helper()
	return c.ask(api.Request{Kind: kind, Nums: nums})
}

func (c *client) submit(id int64, text string) api.Reply {
	c.t.Helper()
	return c.ask(api.Request{Kind: api.DoSubmit, Nums: []int64{id}, Text: text})
}

// crash: keeping just those of the unflushed writes.
func (c *client) crash(bits ...bool) {
	c.t.Helper()
	c.is("DoCrash", c.ask(api.Request{Kind: api.DoCrash, Bits: bits}), api.OK)
}

func (c *client) fail(format string, of ...any) {
	c.t.Helper()
	for _, line := range c.log {
		c.t.Log(line)
	}
	c.t.Fatalf(format, of...)
}

// is: the reply has that code and these numbers, and nothing else.
func (c *client) is(what string, r api.Reply, code api.Errno, nums ...int64) {
	c.t.Helper()
	same(c.t, what, r, api.Reply{To: r.To, Code: code, Nums: nums})
}

// gives: the reply is OK, with that one number.
func (c *client) gives(n int64, r api.Reply) {
	c.t.Helper()
	c.is("the reply", r, api.OK, n)
}

// begins: the program is submitted, and gets that stamp.
func (c *client) begins(id int64, text string, stamp int64) {
	c.t.Helper()
	c.is(fmt.Sprintf("DoSubmit %d %q", id, text), c.submit(id, text), api.OK, stamp)
}

// picks: a pick of that one tells these numbers.
func (c *client) picks(id int64, nums ...int64) {
	c.t.Helper()
	c.is(fmt.Sprintf("DoPick %d", id), c.do(api.DoPick, id), api.OK, nums...)
}

// runs: so many picks of the gate's choosing tell these numbers.
func (c *client) runs(n int64, nums ...int64) {
	c.t.Helper()
	c.is(fmt.Sprintf("DoRun %d", n), c.do(api.DoRun, n), api.OK, nums...)
}

func (c *client) status(nums ...int64) {
	c.t.Helper()
	c.is("DoStatus", c.do(api.DoStatus), api.OK, nums...)
}

// done: the program runs alone to its commit, and is forgotten.
func (c *client) done(text string) {
	c.t.Helper()
	const id = 1 << 29
	if r := c.submit(id, text); r.Code != api.OK {
		c.fail("%s: %+v", text, r)
	}
	r := c.do(api.DoRun, 100)
	if r.Code != api.OK || !slices.Contains(r.Nums[1:], id) {
		c.fail("%s: %+v, %+v", text, r, c.do(api.DoResult, id, -1))
	}
	c.is("DoForget", c.do(api.DoForget, id), api.OK)
}

// graph: what DoDump tells.
func (c *client) graph() api.Graph {
	c.t.Helper()
	r := c.do(api.DoDump)
	if r.Code != api.OK {
		c.fail("DoDump: %+v", r)
	}
	return r.Graph
}

// result: the numbers that DoResult tells of one that is known.
func (c *client) result(id int64) []int64 {
	c.t.Helper()
	r := c.do(api.DoResult, id, -1)
	if r.Code != api.OK || len(r.Nums) != 6 {
		c.fail("DoResult %d -1: %+v", id, r)
	}
	return r.Nums
}

// tables: all tables of one that is known, asked for one by one.
func (c *client) tables(id int64) []api.Table {
	c.t.Helper()
	var out []api.Table
	for k := range c.result(id)[2] {
		r := c.do(api.DoResult, id, k)
		if r.Code != api.OK || len(r.Tables) != 1 {
			c.fail("DoResult %d %d: %+v", id, k, r)
		}
		out = append(out, r.Tables[0])
	}
	c.is("the table behind the last one", c.do(api.DoResult, id, int64(len(out))), api.ErrTable)
	return out
}

// answer: what a program that changes nothing gives, as a text; it runs alone, and is forgotten.
func (c *client) answer(text string) string {
	c.t.Helper()
	const id = 1 << 28
	if r := c.submit(id, text); r.Code != api.OK {
		c.fail("%s: %+v", text, r)
	}
	c.do(api.DoRun, 100)
	defer c.do(api.DoForget, id)
	if r := c.result(id); r[0] != api.SCommitted {
		return fmt.Sprint("error ", r[1])
	}
	return shown(c.tables(id))
}

// shown: tables as texts: values with a blank between, rows with "; ", tables with " | ".
func shown(list []api.Table) string {
	var out []string
	for _, x := range list {
		var rows []string
		for _, r := range x.Rows {
			var vals []string
			for _, v := range r {
				vals = append(vals, value.Print(v))
			}
			rows = append(rows, strings.Join(vals, " "))
		}
		out = append(out, strings.Join(rows, "; "))
	}
	return strings.Join(out, " | ")
}

func askedText(q api.Request) string {
	names := []string{"", "format", "open", "submit", "pick", "run", "cut", "crash", "result", "status", "dump", "waits", "forget"}
	return fmt.Sprint(names[q.Kind], " ", q.Nums, " ", q.Text, len(q.Bits))
}

func repliedText(r api.Reply) string {
	return fmt.Sprintf("%d %v %q %s %v", int(r.Code), r.Nums, r.Texts, shown(r.Tables), r.Graph)
}

// told: all that something tells. (A list that is nil tells the same as one without elements.)
func told(of any) string { return strings.ReplaceAll(fmt.Sprintf("%#v", of), "(nil)", "{}") }

func same(t *testing.T, what string, got, want any) {
	t.Helper()
	if told(got) != told(want) {
		t.Errorf("%s: %+v, want %+v", what, got, want)
	}
}

func prop(key string, v api.Val) api.Prop { return api.Prop{Key: key, Val: v} }
func whole(n int64) api.Val               { return api.Val{Kind: api.KInt, A: n} }
func text(s string) api.Val               { return api.Val{Kind: api.KStr, S: s} }
