package server

import (
	"testing"

	"trellis/api"
	"trellis/wire"
)

// read: the one reply that stands in bytes.
func read(t *testing.T, b []byte) api.Reply {
	t.Helper()
	list := wire.NewReader().Feed(b)
	if len(list) != 1 {
		t.Fatalf("%d frames", len(list))
	}
	r, code := wire.GetReply(list[0])
	if code != api.OK {
		t.Fatalf("GetReply: %d", code)
	}
	return r
}

// TestP1703WhatCannotBeSent: a reply that no frame can hold, of each kind: its To, ErrBody, and nothing else.
func TestP1703WhatCannotBeSent(t *testing.T) {
	long := make([]byte, api.MaxBody+1)
	replies := []api.Reply{
		{Nums: make([]int64, api.MaxNums+1)},
		{Texts: []string{string(long)}},
		{Nums: []int64{1, 2}, Tables: []api.Table{{Cols: []string{string(long)}}}},
		{Tables: []api.Table{{Rows: [][]api.Val{{{Kind: 77}}}}}},
		{Code: api.ErrPower, Graph: api.Graph{Nodes: []api.Node{{Id: 1, Label: string(long)}}}},
	}
	for to := range api.DoForget + 1 {
		for i, r := range replies {
			r.To = to
			got := read(t, sent(r))
			if got.To != to || got.Code != api.ErrBody || len(got.Nums)+len(got.Texts)+len(got.Tables)+len(got.Graph.Nodes) != 0 {
				t.Errorf("reply %d to %d: %+v", i, to, got)
			}
		}
	}
}

// TestP1703WhatCanBeSent: the greatest replies that a frame can hold are sent as they are.
func TestP1703WhatCanBeSent(t *testing.T) {
	nums := make([]int64, api.MaxNums)
	nums[0], nums[api.MaxNums-1] = 7, -9
	if got := read(t, sent(api.Reply{To: api.DoRun, Nums: nums})); got.Code != api.OK || len(got.Nums) != len(nums) || got.Nums[0] != 7 || got.Nums[len(nums)-1] != -9 {
		t.Errorf("a reply with as many numbers as can be: %d, %d numbers", got.Code, len(got.Nums))
	}
	text := string(make([]byte, api.MaxBody-100))
	if got := read(t, sent(api.Reply{To: api.DoWaits, Texts: []string{text}})); got.Code != api.OK || len(got.Texts) != 1 || got.Texts[0] != text {
		t.Errorf("a reply with a long text: %d", got.Code)
	}
}

// ask: the reply to a request that is done, without the wire.
func (s *Server) ask(kind int, text string, nums ...int64) api.Reply {
	return s.done(api.Request{Kind: kind, Text: text, Nums: nums})
}

// TestP1701EachKindHasADeed: of all kinds that the wire lets through.
func TestP1701EachKindHasADeed(t *testing.T) {
	all := deeds()
	for kind := api.DoFormat; kind <= api.DoForget; kind++ {
		if all[kind] == nil {
			t.Errorf("the kind %d does nothing", kind)
		}
	}
	if len(all) != api.DoForget {
		t.Errorf("%d deeds", len(all))
	}
}

// TestP1708Kept: of one that is queued its program is kept; of one that has entered, or was refused, nothing is. When it goes down, nothing at all is.
func TestP1708Kept(t *testing.T) {
	s := New()
	s.ask(api.DoFormat, "", 1, 1, 1, 1, 4, 1)
	s.ask(api.DoSubmit, "create (:a)", 1)
	s.ask(api.DoSubmit, "return 2; return 3", 2)
	s.ask(api.DoSubmit, "return 2 +", 3)
	s.ask(api.DoSubmit, "return x", 4)
	if q := s.up.queue[2]; len(s.up.queue) != 1 || len(q.program) != 2 || q.stamp != 2 {
		t.Errorf("the queue: %+v", s.up.queue)
	}
	s.ask(api.DoRun, "", 3)
	if len(s.up.queue) != 0 {
		t.Errorf("the queue behind the entering: %+v", s.up.queue)
	}
	s.ask(api.DoRun, "", 99)
	for id := range int64(5) {
		s.ask(api.DoForget, "", id)
	}
	if live := s.up.txns.Live(); len(live) != 0 || s.up.stat(1).State != 0 || s.up.stat(2).State != 0 {
		t.Errorf("behind the forgetting: %v, %+v, %+v", live, s.up.stat(1), s.up.stat(2))
	}
	s.ask(api.DoCrash, "")
	if s.up != nil || s.disk == nil || s.reader == nil {
		t.Errorf("down: %+v", s)
	}
}

// TestP5Reserved: room in the log is set aside for each that is inside, just that of the greatest commit; and for nobody else.
func TestP5Reserved(t *testing.T) {
	s := New()
	s.ask(api.DoFormat, "", 2, 1, 3, 2, 5, 3)
	room := unit(1 + 2 + 1 + 3 + 2)
	holds := func(what string, inside, logged int) {
		t.Helper()
		if got := s.up.store.Stat().Log; got.Reserved != inside*room || got.Live > logged*room || got.Free < (5-inside-logged)*room {
			t.Errorf("%s: %+v, room %d", what, got, room)
		}
	}
	holds("nobody", 0, 0)
	for i, text := range []string{"create (:a)", "abort", "return 1", "create (:b)", "create (:c)"} {
		s.ask(api.DoSubmit, text, int64(i+1))
		holds("submitted", min(i+1, 3), 0)
	}
	s.ask(api.DoPick, "", 2)
	holds("one has failed, another one has entered", 3, 0)
	s.ask(api.DoPick, "", 3)
	s.ask(api.DoPick, "", 3)
	holds("one has committed nothing, another one has entered", 3, 0)
	s.ask(api.DoPick, "", 1)
	s.ask(api.DoPick, "", 1)
	holds("one has committed", 2, 1)
	s.ask(api.DoPick, "", 0)
	holds("swept", 2, 0)
	if got := s.up.store.Stat().Log.Live; got != 0 {
		t.Errorf("behind a sweep the log has %d sectors", got)
	}
}
