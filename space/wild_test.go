package space_test

import (
	"math"
	"math/rand/v2"
	"testing"

	"trellis/api"
	"trellis/space"
)

// TestP1201NilMem: of a nil graph what answers an error answers ErrArg, the others nothing.
func TestP1201NilMem(t *testing.T) {
	var m *space.Mem
	same(t, "Graph", m.Graph(), api.Graph{})
	same(t, "Asked", m.Asked(), []api.Asked{})
	refused[api.Applied](t, "Apply", api.ErrArg)(m.Apply(api.Delta{}))
	refused[api.Applied](t, "Apply", api.ErrArg)(m.Apply(api.Delta{DelNodes: ids(0)}))
	nilView(t, m)
}

// TestP1201NilSpace: likewise of a nil space; its arguments' faults come behind that.
func TestP1201NilSpace(t *testing.T) {
	var s *space.Space
	refused[int64](t, "AddNode", api.ErrArg)(s.AddNode("a", nil))
	refused[int64](t, "AddNode", api.ErrArg)(s.AddNode("A", nil))
	refused[int64](t, "AddEdge", api.ErrArg)(s.AddEdge("a", 1, 2, nil))
	refused[int64](t, "AddEdge", api.ErrArg)(s.AddEdge("A", 1, 2, nil))
	wants(t, "SetNode", s.SetNode(1, "A", yes), api.ErrArg)
	wants(t, "SetEdge", s.SetEdge(1, "A", yes), api.ErrArg)
	refused[int](t, "DelNode", api.ErrArg)(s.DelNode(1, true))
	wants(t, "DelEdge", s.DelEdge(1), api.ErrArg)
	same(t, "Mark", s.Mark(), 0)
	wants(t, "Undo", s.Undo(0), api.ErrArg)
	wants(t, "Undo", s.Undo(-1), api.ErrArg)
	same(t, "Delta", s.Delta(), api.Delta{})
	nilView(t, s)
}

func nilView(t *testing.T, v api.View) {
	t.Helper()
	refused[[]int64](t, "Nodes", api.ErrArg)(v.Nodes("A"))
	refused[[]int64](t, "Find", api.ErrArg)(v.Find("a", "A", yes))
	refused[api.Node](t, "Node", api.ErrArg)(v.Node(0))
	refused[api.Edge](t, "Edge", api.ErrArg)(v.Edge(0))
	refused[[]int64](t, "Out", api.ErrArg)(v.Out(0))
	refused[[]int64](t, "In", api.ErrArg)(v.In(0))
	wants(t, "Hold", v.Hold(api.Res{}, 0), api.ErrArg)
}

// liar: a view that answers anything.
type liar struct{ r *rand.Rand }

func (l liar) id() int64 {
	return []int64{0, 1, 2, 3, 4, -1, -2, -3, math.MinInt64, math.MaxInt64}[l.r.IntN(10)]
}

func (l liar) code() api.Errno {
	return []api.Errno{0, 0, 0, 0, 0, 0, 0, 0, 3, 70, -1, 120}[l.r.IntN(12)]
}

func (l liar) some() (out []int64, code api.Errno) {
	for range l.r.IntN(5) {
		out = append(out, l.id())
	}
	return out, l.code()
}

func (l liar) props() (out []api.Prop) {
	for range l.r.IntN(11) {
		out = append(out, pr([]string{"b", "a", "", "A", "c"}[l.r.IntN(5)], append(noVals, null, yes)[l.r.IntN(len(noVals)+2)]))
	}
	return out
}

func (l liar) Nodes(string) ([]int64, api.Errno)                { return l.some() }
func (l liar) Find(_, _ string, _ api.Val) ([]int64, api.Errno) { return l.some() }
func (l liar) Out(int64) ([]int64, api.Errno)                   { return l.some() }
func (l liar) In(int64) ([]int64, api.Errno)                    { return l.some() }
func (l liar) Hold(api.Res, int) api.Errno                      { return l.code() }

func (l liar) Node(int64) (api.Node, api.Errno) {
	return nd(l.id(), []string{"a", "", "A"}[l.r.IntN(3)], l.props()...), l.code()
}

func (l liar) Edge(int64) (api.Edge, api.Errno) {
	return ed(l.id(), "", l.id(), l.id(), l.props()...), l.code()
}

// TestP1206Liar: over a base that answers anything each call ends, and none panics; what is undone is as if it had not been.
func TestP1206Liar(t *testing.T) {
	for seed := range uint64(60) {
		l := liar{rand.New(rand.NewPCG(12, seed))}
		s := space.New(l)
		var deltas []api.Delta // at each mark
		for range 300 {
			if mark := s.Mark(); mark >= len(deltas) {
				deltas = append(deltas, s.Delta())
			}
			switch id, other := l.id(), l.id(); l.r.IntN(14) {
			case 0:
				s.AddNode("a", nil)
			case 1:
				s.AddEdge("a", id, other, nil)
			case 2:
				s.SetNode(id, "b", yes)
			case 3:
				s.SetEdge(id, "b", null)
			case 4:
				s.DelNode(id, other > 1)
			case 5:
				s.DelEdge(id)
			case 6:
				mark := l.r.IntN(s.Mark() + 1)
				s.Undo(mark)
				deltas = deltas[:min(len(deltas), mark+1)]
				same(t, "Delta behind an Undo", s.Delta(), deltas[mark])
			case 7:
				s.Nodes("a")
			case 8:
				s.Find("a", "b", yes)
			case 9:
				s.Node(id)
			case 10:
				s.Edge(id)
			case 11:
				s.Out(id)
			case 12:
				s.In(id)
			case 13:
				s.Hold(api.Res{Level: 3, Id: id}, 5)
			}
		}
	}
}
