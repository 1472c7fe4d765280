package space

import (
	"testing"

	"trellis/api"
)

// TestP1211Kept: of what was undone nothing is kept.
func TestP1211Kept(t *testing.T) {
	m, _ := Load(api.Graph{Nodes: []api.Node{{Id: 1, Label: "a"}, {Id: 2, Label: "a"}}, Edges: []api.Edge{{Id: 1, Type: "t", From: 1, To: 2}}})
	s := New(m)
	s.SetNode(1, "k", api.Val{Kind: api.KInt})
	s.SetNode(1, "l", api.Val{})
	s.SetEdge(1, "k", api.Val{})
	s.AddNode("a", nil)
	s.AddEdge("t", 1, -1, nil)
	s.DelEdge(1)
	s.DelNode(-1, true)
	s.DelNode(2, true)
	s.Undo(0)
	for _, h := range []half{s.nodes, s.edges} {
		if len(h.own)+len(h.gone)+len(h.sets) > 0 {
			t.Errorf("behind an Undo of all it has %v", h)
		}
	}
	if len(s.out)+len(s.in) > 0 {
		t.Errorf("behind an Undo of all it has the edges %v, %v", s.out, s.in)
	}
	for _, undos := range s.undos[:cap(s.undos)] {
		if undos != nil {
			t.Errorf("behind an Undo of all it has what undoes a change")
		}
	}
}

// TestP1205Kept: of what was asked nothing is kept behind Asked.
func TestP1205Kept(t *testing.T) {
	m, _ := Load(api.Graph{})
	for id := range int64(9) {
		m.Node(id)
	}
	m.Asked()
	for _, a := range m.asked[:cap(m.asked)] {
		if a != (api.Asked{}) {
			t.Errorf("behind Asked it has %v", a)
		}
	}
}
