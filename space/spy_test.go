package space_test

import (
	"testing"

	"trellis/api"
	"trellis/space"
)

// spy: a view that notes what it is asked, and answers the call number failAt (from 0 on; below 0: none) with an error, and more beside it than an error should have.
type spy struct {
	api.View
	asked  []api.Asked
	failAt int
	code   api.Errno
}

// note: what the call must answer.
func (v *spy) note(a api.Asked) api.Errno {
	v.asked = append(v.asked, a)
	if len(v.asked)-1 == v.failAt {
		return v.code
	}
	return api.OK
}

// list: the ids, or a fault with other ids.
func (v *spy) list(a api.Asked, of func() ([]int64, api.Errno)) ([]int64, api.Errno) {
	if code := v.note(a); code != api.OK {
		return ids(1, 2, 7), code
	}
	return of()
}

func (v *spy) Nodes(label string) ([]int64, api.Errno) {
	return v.list(qNodes(label), func() ([]int64, api.Errno) { return v.View.Nodes(label) })
}

func (v *spy) Find(label, key string, val api.Val) ([]int64, api.Errno) {
	return v.list(qFind(label, key, val), func() ([]int64, api.Errno) { return v.View.Find(label, key, val) })
}

func (v *spy) Out(id int64) ([]int64, api.Errno) {
	return v.list(qOut(id), func() ([]int64, api.Errno) { return v.View.Out(id) })
}

func (v *spy) In(id int64) ([]int64, api.Errno) {
	return v.list(qIn(id), func() ([]int64, api.Errno) { return v.View.In(id) })
}

func (v *spy) Node(id int64) (api.Node, api.Errno) {
	if code := v.note(qNode(id)); code != api.OK {
		return nd(5, "x", pr("q", yes)), code
	}
	return v.View.Node(id)
}

func (v *spy) Edge(id int64) (api.Edge, api.Errno) {
	if code := v.note(qEdge(id)); code != api.OK {
		return ed(5, "x", 1, 2, pr("q", yes)), code
	}
	return v.View.Edge(id)
}

func (v *spy) Hold(r api.Res, mode int) api.Errno {
	if code := v.note(qHold(r, mode)); code != api.OK {
		return code
	}
	return v.View.Hold(r, mode)
}

// TestP1206BaseFails: whichever asking of whichever call the base answers with an error: that is the answer, nothing more is asked, nothing has changed.
func TestP1206BaseFails(t *testing.T) {
	codes := []api.Errno{api.ErrBlocked, api.ErrPower, api.ErrGone, api.ErrNoNode, 9999, -1}
	for name, c := range map[string]struct {
		call func(s *space.Space) (any, api.Errno)
		zero any
		asks int
	}{
		"Nodes":   {func(s *space.Space) (any, api.Errno) { return s.Nodes("city") }, ids(), 1},
		"Find":    {func(s *space.Space) (any, api.Errno) { return s.Find("city", "pop", num(5)) }, ids(), 1},
		"Node":    {func(s *space.Space) (any, api.Errno) { return s.Node(1) }, api.Node{}, 1},
		"Edge":    {func(s *space.Space) (any, api.Errno) { return s.Edge(1) }, api.Edge{}, 1},
		"Out":     {func(s *space.Space) (any, api.Errno) { return s.Out(1) }, ids(), 1},
		"In":      {func(s *space.Space) (any, api.Errno) { return s.In(1) }, ids(), 1},
		"Hold":    {func(s *space.Space) (any, api.Errno) { return nil, s.Hold(api.Res{}, 1) }, nil, 1},
		"AddNode": {func(s *space.Space) (any, api.Errno) { return s.AddNode("a", nil) }, 0, 1},
		"AddEdge": {func(s *space.Space) (any, api.Errno) { return s.AddEdge("a", 1, 2, nil) }, 0, 4},
		"ring":    {func(s *space.Space) (any, api.Errno) { return s.AddEdge("a", 1, 1, nil) }, 0, 2},
		"SetNode": {func(s *space.Space) (any, api.Errno) { return nil, s.SetNode(1, "pop", null) }, nil, 2},
		"SetEdge": {func(s *space.Space) (any, api.Errno) { return nil, s.SetEdge(1, "a", yes) }, nil, 2},
		"DelEdge": {func(s *space.Space) (any, api.Errno) { return nil, s.DelEdge(1) }, nil, 3},
		"DelNode": {func(s *space.Space) (any, api.Errno) { return s.DelNode(1, true) }, 0, 13},
	} {
		for at := range c.asks {
			for _, code := range codes {
				v := &spy{View: loaded(t, rich()), failAt: -1}
				s := space.New(v)
				does(t, s, script[:2])
				unmoved := still(t, s)
				v.asked, v.failAt, v.code = nil, at, code
				got, answer := c.call(s)
				wants(t, name, answer, code)
				same(t, name, got, c.zero)
				same(t, name+": how much was asked", len(v.asked), at+1)
				v.failAt = -1
				unmoved()
			}
		}
		v := &spy{View: loaded(t, rich()), failAt: -1}
		_, code := c.call(space.New(v))
		wants(t, name, code, api.OK)
		same(t, name+": how much was asked", len(v.asked), c.asks)
	}
}
