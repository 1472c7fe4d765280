package space_test

import (
	"math"
	"testing"

	"trellis/api"
	"trellis/space"
)

// script: one change of each kind on the base's and on its own, and some that stand on each other; each is answered OK.
var script = []func(s *space.Space) api.Errno{
	func(s *space.Space) api.Errno { return s.SetNode(1, "pop", num(6)) },
	func(s *space.Space) api.Errno { _, code := s.AddNode("city", list(pr("pop", num(6)))); return code },
	func(s *space.Space) api.Errno { return s.SetNode(1, "pop", null) },
	func(s *space.Space) api.Errno { return s.SetNode(1, "zip", yes) },
	func(s *space.Space) api.Errno { return s.SetNode(-1, "pop", num(7)) },
	func(s *space.Space) api.Errno { _, code := s.AddEdge("road", -1, 2, numbered(2)); return code },
	func(s *space.Space) api.Errno { _, code := s.AddEdge("road", -1, -1, nil); return code },
	func(s *space.Space) api.Errno { _, code := s.AddEdge("road", 1, -1, nil); return code },
	func(s *space.Space) api.Errno { return s.SetEdge(-1, "a", null) },
	func(s *space.Space) api.Errno { return s.SetEdge(1, "len", num(4)) },
	func(s *space.Space) api.Errno { return s.SetEdge(1, "len", num(5)) },
	func(s *space.Space) api.Errno { return s.DelEdge(-3) },
	func(s *space.Space) api.Errno { return s.DelEdge(2) },
	func(s *space.Space) api.Errno { _, code := s.DelNode(-1, true); return code },
	func(s *space.Space) api.Errno { _, code := s.AddNode("town", nil); return code },
	func(s *space.Space) api.Errno { _, code := s.AddEdge("rail", -2, 1, nil); return code },
	func(s *space.Space) api.Errno { _, code := s.DelNode(1, true); return code },
	func(s *space.Space) api.Errno { _, code := s.DelNode(7, false); return code },
	func(s *space.Space) api.Errno { _, code := s.AddEdge("rail", -2, 6, nil); return code },
}

// does: the changes of the script up to there.
func does(t *testing.T, s *space.Space, changes []func(s *space.Space) api.Errno) {
	t.Helper()
	for _, change := range changes {
		wants(t, "the change of the script", change(s), api.OK)
	}
}

// TestP1211Undo: from each mark back to each, the space is what it was there, asks nothing, and makes what it made then.
func TestP1211Undo(t *testing.T) {
	for far := range len(script) + 1 {
		for mark := range far + 1 {
			m, s := over(t, rich())
			does(t, s, script[:mark])
			was := told(s)
			does(t, s, script[mark:far])
			same(t, "Mark", s.Mark(), far)
			m.Asked()
			wants(t, "Undo", s.Undo(mark), api.OK)
			asks(t, m)
			if now := told(s); now != was {
				t.Fatalf("behind the way from %d to %d and back the space is\n%s\nwas\n%s", mark, far, now, was)
			}
			does(t, s, script[mark:])
			_, other := over(t, rich())
			does(t, other, script)
			same(t, "the whole script behind an Undo", told(s), told(other))
		}
	}
}

// TestP1211Marks: a mark that is none changes nothing; calls that were refused, and readings, do not count.
func TestP1211Marks(t *testing.T) {
	_, s := over(t, rich())
	same(t, "Mark", s.Mark(), 0)
	does(t, s, script[:6])
	unmoved := still(t, s)
	for _, mark := range []int{-1, 7, math.MinInt, math.MaxInt} {
		wants(t, "Undo", s.Undo(mark), api.ErrMark)
	}
	s.DelNode(1, false)
	s.DelNode(99, true)
	s.SetNode(6, "z", yes)
	s.SetEdge(-9, "z", yes)
	s.AddEdge("t", 1, 99, nil)
	s.AddNode("A", nil)
	s.DelEdge(3)
	unmoved()
	wants(t, "Undo", s.Undo(6), api.OK)
	unmoved()
	wants(t, "Undo", s.Undo(5), api.OK)
	wants(t, "Undo to a mark that is no more", s.Undo(6), api.ErrMark)
	wants(t, "Undo", s.Undo(0), api.OK)
	same(t, "what the space shows", shown(s), rich())
	same(t, "Delta", s.Delta(), api.Delta{})
	wants(t, "Undo", s.Undo(0), api.OK)
	wants(t, "Undo", s.Undo(1), api.ErrMark)
}

// TestP1211Detach: a deletion with edges is one change; behind its Undo the node has its edges and what was set again.
func TestP1211Detach(t *testing.T) {
	_, s := over(t, rich())
	wants(t, "SetNode", s.SetNode(1, "pop", num(9)), api.OK)
	wants(t, "SetEdge", s.SetEdge(5, "a", num(9)), api.OK)
	linked(t, s, -1, "t", 1, 7)
	wants(t, "DelEdge", s.DelEdge(2), api.OK)
	unmoved := still(t, s)
	took(t, s, 1, 5)
	same(t, "Mark", s.Mark(), 5)
	same(t, "Delta", s.Delta(), api.Delta{DelEdges: ids(1, 2, 5, 6, 8), DelNodes: ids(1)})
	wants(t, "Undo", s.Undo(4), api.OK)
	unmoved()
	refused[api.Edge](t, "Edge 2", api.ErrGone)(s.Edge(2))
}

// TestP1211Ids: what was undone does not count; what was deleted does.
func TestP1211Ids(t *testing.T) {
	_, s := over(t, rich())
	for range 3 {
		added(t, s, -1, "a")
		added(t, s, -2, "b")
		linked(t, s, -1, "t", -1, -2)
		took(t, s, -2, 1)
		added(t, s, -3, "c")
		linked(t, s, -2, "t", -1, -3)
		wants(t, "Undo", s.Undo(4), api.OK)
		refused[api.Node](t, "Node -3", api.ErrNoNode)(s.Node(-3))
		added(t, s, -3, "d")
		linked(t, s, -2, "t", -3, -3)
		wants(t, "Undo", s.Undo(0), api.OK)
		refused[api.Node](t, "Node -1", api.ErrNoNode)(s.Node(-1))
	}
}

// TestP1212Delta: each list in its order, the last values alone, nothing of what is gone; the base is not asked.
func TestP1212Delta(t *testing.T) {
	m, s := over(t, rich())
	for _, c := range list(to(7, "b", yes), to(2, "z", num(1)), to(7, "a", null), to(2, "pop", num(1)), to(2, "z", num(2)), to(2, "ab", null), to(7, "a", no), to(4, "k", yes)) {
		wants(t, "SetNode", s.SetNode(c.Id, c.Key, c.Val), api.OK)
	}
	for _, c := range list(to(9, "b", yes), to(1, "z", num(1)), to(9, "k", null), to(1, "len", num(1)), to(2, "q", null), to(5, "a", yes)) {
		wants(t, "SetEdge", s.SetEdge(c.Id, c.Key, c.Val), api.OK)
	}
	added(t, s, -1, "a", pr("m", num(1)))
	added(t, s, -2, "b")
	added(t, s, -3, "c", numbered(3)...)
	linked(t, s, -1, "t", -3, 2, pr("x", yes))
	linked(t, s, -2, "t", -2, -1)
	linked(t, s, -3, "t", 1, -3)
	for _, c := range list(to(-1, "z", num(2)), to(-1, "a", num(3)), to(-1, "m", null), to(-3, "b", num(9))) {
		wants(t, "SetNode", s.SetNode(c.Id, c.Key, c.Val), api.OK)
	}
	wants(t, "SetEdge", s.SetEdge(-1, "a", str("q")), api.OK)
	took(t, s, -2, 1)
	took(t, s, 4, 1)
	took(t, s, 6, 1)
	wants(t, "DelEdge", s.DelEdge(5), api.OK)
	m.Asked()
	same(t, "Delta", s.Delta(), api.Delta{
		DelEdges: ids(5, 8, 9), DelNodes: ids(4, 6),
		NewNodes: list(nd(-1, "a", pr("a", num(3)), pr("z", num(2))), nd(-3, "c", pr("a", num(0)), pr("b", num(9)), pr("c", num(2)))),
		NewEdges: list(ed(-1, "t", -3, 2, pr("a", str("q")), pr("x", yes)), ed(-3, "t", 1, -3)),
		SetNodes: list(to(2, "ab", null), to(2, "pop", num(1)), to(2, "z", num(2)), to(7, "a", no), to(7, "b", yes)),
		SetEdges: list(to(1, "len", num(1)), to(1, "z", num(1)), to(2, "q", null)),
	})
	asks(t, m)
}
