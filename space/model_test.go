package space_test

import (
	"cmp"
	"fmt"
	"math/rand/v2"
	"slices"
	"testing"

	"trellis/api"
	"trellis/space"
)

// pool: values that a property can have.
var pool = []api.Val{yes, no, num(0), num(5), cpx(5, 0), str(""), str("5")}

// step: a call of a space, with arguments for any of them.
type step struct {
	what      int
	id, other int64
	name, key string
	v         api.Val
	props     []api.Prop
	flag      bool
	mark      int
}

func one[T any](r *rand.Rand, of ...T) T { return of[r.IntN(len(of))] }

// drawn: any call, mostly one that can be answered.
func drawn(r *rand.Rand, mark int) step {
	x := step{
		what: r.IntN(14), id: r.Int64N(16) - 5, other: r.Int64N(16) - 5, flag: r.IntN(3) > 0, mark: r.IntN(mark + 1),
		name: one(r, "a", "b"), key: string(rune('a' + r.IntN(10))), v: one(r, pool...),
	}
	for k := 'a'; k < 'l'; k++ {
		if r.IntN(3) == 0 && len(x.props) < 8 {
			x.props = append(x.props, pr(string(k), one(r, pool...)))
		}
	}
	if r.IntN(3) == 0 {
		x.v = null
	}
	if x.what == 13 && r.IntN(2) == 0 { // to go back is rarer than to go on
		x.what = 0
	}
	switch r.IntN(30) {
	case 0:
		x.name = one(r, noNames...)
	case 1:
		x.key = one(r, noNames...)
	case 2:
		x.v = one(r, append(noVals, links...)...)
	case 3:
		x.props = one(r, badProps()...)
	case 4:
		x.id = one(r, farIds...)
	case 5:
		x.mark = one(r, -1, mark+1)
	}
	return x
}

// on: what the space answers.
func (x step) on(s *space.Space) (any, api.Errno) {
	switch x.what {
	case 0:
		return s.AddNode(x.name, x.props)
	case 1:
		return s.AddEdge(x.name, x.id, x.other, x.props)
	case 2:
		return nil, s.SetNode(x.id, x.key, x.v)
	case 3:
		return nil, s.SetEdge(x.id, x.key, x.v)
	case 4:
		return s.DelNode(x.id, x.flag)
	case 5:
		return nil, s.DelEdge(x.id)
	case 6:
		if x.flag {
			return s.Nodes("")
		}
		return s.Nodes(x.name)
	case 7:
		return s.Find(x.name, x.key, x.v)
	case 8:
		return s.Node(x.id)
	case 9:
		return s.Edge(x.id)
	case 10:
		return s.Out(x.id)
	case 11:
		return s.In(x.id)
	case 12:
		return nil, s.Hold(api.Res{Level: x.mark, Label: x.name, Id: x.id}, x.mark)
	}
	return nil, s.Undo(x.mark)
}

// by: what the book answers.
func (x step) by(b *book) any {
	switch x.what {
	case 0:
		return b.addNode(x.name, x.props)
	case 1:
		return b.addEdge(x.name, x.id, x.other, x.props)
	case 2:
		b.setNode(x.id, x.key, x.v)
	case 3:
		b.setEdge(x.id, x.key, x.v)
	case 4:
		return b.delNode(x.id, x.flag)
	case 5:
		b.delEdge(x.id)
	case 6:
		if x.flag {
			return b.nodes("")
		}
		return b.nodes(x.name)
	case 7:
		return b.find(x.name, x.key, x.v)
	case 8:
		return b.node(x.id)
	case 9:
		return b.edge(x.id)
	case 10:
		return b.out(x.id)
	case 11:
		return b.in(x.id)
	case 12:
		b.ask(qHold(api.Res{Level: x.mark, Label: x.name, Id: x.id}, x.mark))
	default:
		b.undo(x.mark)
	}
	return nil
}

// zeros: what a call answers beside an error.
var zeros = map[int]any{0: 0, 1: 0, 4: 0, 6: ids(), 7: ids(), 8: api.Node{}, 9: api.Edge{}, 10: ids(), 11: ids()}

// renamed: the graph with the space's own ids replaced by those that a write set's nodes and edges got.
func renamed(g api.Graph, x api.Delta, got api.Applied) api.Graph {
	nodes, edges := map[int64]int64{}, map[int64]int64{}
	for i, n := range x.NewNodes {
		nodes[n.Id] = got.Nodes[i]
	}
	for i, e := range x.NewEdges {
		edges[e.Id] = got.Edges[i]
	}
	now := func(to map[int64]int64, id int64) int64 {
		if id < 0 {
			return to[id]
		}
		return id
	}
	for i := range g.Nodes {
		g.Nodes[i].Id = now(nodes, g.Nodes[i].Id)
	}
	for i, e := range g.Edges {
		g.Edges[i].Id, g.Edges[i].From, g.Edges[i].To = now(edges, e.Id), now(nodes, e.From), now(nodes, e.To)
	}
	slices.SortFunc(g.Nodes, func(a, b api.Node) int { return cmp.Compare(a.Id, b.Id) })
	slices.SortFunc(g.Edges, func(a, b api.Edge) int { return cmp.Compare(a.Id, b.Id) })
	return g
}

// TestP1206To1213AgainstABook: calls of all sorts, one behind the other, held against the second reckoning: answers, what is asked of the base and in which order (and the base's errors among it), write sets; and each write set leaves just the graph that the space showed.
func TestP1206To1213AgainstABook(t *testing.T) {
	r := rand.New(rand.NewPCG(12, 12))
	codes := map[string]int{}
	for range 60 {
		m := loaded(t, one(r, api.Graph{}, chapter(), rich()))
		for range 6 {
			v := &spy{View: m, failAt: -1}
			s, b := space.New(v), bookOf(m.Graph())
			for range 10 + r.IntN(60) {
				code, what := together(t, r, v, s, b)
				codes[fmt.Sprint(what, " ", int(code))]++
				if t.Failed() {
					return
				}
			}
			if leaves(t, m, s); t.Failed() {
				return
			}
		}
	}
	for _, want := range []string{"0 0", "0 73", "0 74", "1 0", "1 70", "1 120", "2 0", "2 74", "2 120", "3 0", "3 71", "3 74", "3 120", "4 0", "4 70", "4 72", "4 120", "5 0", "5 71", "5 120", "7 0", "8 0", "8 70", "8 120", "9 71", "9 120", "10 0", "10 120", "13 0", "13 121", "4 3", "1 3"} {
		if codes[want] < 3 {
			t.Errorf("the call and answer %q were met %d times alone", want, codes[want])
		}
	}
}

// together: one call of the space and the book.
func together(t *testing.T, r *rand.Rand, v *spy, s *space.Space, b *book) (api.Errno, int) {
	t.Helper()
	x := drawn(r, b.mark())
	v.asked, v.failAt, v.code = nil, -1, api.ErrBlocked
	if r.IntN(6) == 0 {
		v.failAt = r.IntN(4)
	}
	b.failAt, b.code = v.failAt, v.code
	got, code := x.on(s)
	want, wantCode := try(b, func() any { return x.by(b) })
	if wantCode != api.OK {
		want = zeros[x.what]
	}
	what := fmt.Sprintf("%+v", x)
	wants(t, what, code, wantCode)
	same(t, what, got, want)
	same(t, what+": what was asked", v.asked, b.asked)
	v.failAt, b.failAt = -1, -1
	same(t, what+": Mark", s.Mark(), b.mark())
	same(t, what+": Delta", s.Delta(), b.delta())
	return code, x.what
}

// leaves: the write set is applied, and leaves what the space showed.
func leaves(t *testing.T, m *space.Mem, s *space.Space) {
	t.Helper()
	x, g := s.Delta(), shown(s)
	got, code := m.Apply(x)
	wants(t, "Apply of the space's write set", code, api.OK)
	if code == api.OK {
		same(t, "the graph behind it", m.Graph(), renamed(g, x, got))
		same(t, "what the graph shows", shown(m), m.Graph())
	}
}

// TestP1207ShownAgainstABook: behind calls of all sorts the space shows the book's graph, by every call.
func TestP1207ShownAgainstABook(t *testing.T) {
	r := rand.New(rand.NewPCG(12, 7))
	for range 150 {
		v := &spy{View: loaded(t, rich()), failAt: -1}
		s, b := space.New(v), bookOf(rich())
		for range 40 {
			together(t, r, v, s, b)
		}
		same(t, "what the space shows", shown(s), b.shown())
		for _, label := range []string{"a", "b", "city", "town", "lone"} {
			same(t, "Nodes", must(s.Nodes(label)), b.nodes(label))
			for key := 'a'; key < 'k'; key++ {
				for _, val := range append(pool, null) {
					same(t, "Find", must(s.Find(label, string(key), val)), b.find(label, string(key), val))
				}
			}
		}
		for _, n := range b.shown().Nodes {
			same(t, "Out", must(s.Out(n.Id)), b.out(n.Id))
			same(t, "In", must(s.In(n.Id)), b.in(n.Id))
		}
		if t.Failed() {
			return
		}
	}
}
