package space_test

import (
	"fmt"
	"math/rand/v2"
	"testing"

	"trellis/api"
	"trellis/disk"
	"trellis/records"
	"trellis/space"
)

// stored: a store of records with room for what these tests make.
func stored(t *testing.T) *records.Store {
	t.Helper()
	d, code := disk.New(1000)
	wants(t, "disk.New", code, api.OK)
	wants(t, "records.Format", records.Format(d, 700, api.Sizes{Node: 12, Edge: 20, Prop: 100, Tree: 120}), api.OK)
	return must(records.Open(d))
}

// spoilt: a write set of which something is other than it was.
func spoilt(r *rand.Rand, x api.Delta) api.Delta {
	id, name, v := r.Int64N(24)-6, one(r, append(noNames, "a", "b")...), one(r, append(noVals, null, yes, links[0])...)
	switch r.IntN(9) {
	case 0:
		x.DelEdges = append(x.DelEdges, id)
	case 1:
		x.DelNodes = append(x.DelNodes, id)
	case 2:
		x.NewNodes = append(x.NewNodes, nd(id, name, pr("a", v)))
	case 3:
		x.NewEdges = append(x.NewEdges, ed(-99, "t", id, 1, pr(name, yes)))
	case 4:
		x.NewEdges = append(x.NewEdges, ed(-99, "t", 1, id, pr("a", v)))
	case 5:
		x.SetNodes = append(x.SetNodes, to(id, name, v))
	case 6:
		x.SetEdges = append(x.SetEdges, to(id, name, v))
	case 7:
		x.DelEdges = nil
	case 8:
		for _, p := range numbered(9) {
			x.SetEdges = append(x.SetEdges, to(max(id, 1), p.Key, yes))
		}
	}
	return x
}

// TestP1203AgainstRecords: write sets of all sorts: a graph in memory answers each as a store of records does, and has the same graph with the same ids behind it.
func TestP1203AgainstRecords(t *testing.T) {
	r := rand.New(rand.NewPCG(12, 3))
	codes := map[api.Errno]int{}
	for range 12 {
		m, st := loaded(t, api.Graph{}), stored(t)
		for range 60 {
			s := space.New(m)
			for range r.IntN(25) {
				drawn(r, s.Mark()).on(s)
			}
			x := s.Delta()
			if r.IntN(2) == 0 {
				x = spoilt(r, x)
			}
			want, wantCode := st.Apply(x, false, true)
			if wantCode == api.ErrFull {
				break
			}
			st.Checkpoint(1000)
			want.Lsn = 0
			got, code := m.Apply(x)
			codes[code]++
			wants(t, "Apply", code, wantCode)
			same(t, "Apply", got, want)
			same(t, "Graph", m.Graph(), must(st.Graph()))
			if t.Failed() {
				t.Fatalf("behind %+v", x)
			}
		}
	}
	for _, code := range []api.Errno{api.OK, api.ErrNoNode, api.ErrNoEdge, api.ErrHasEdges, api.ErrName, api.ErrProps, api.ErrDelta} {
		if codes[code] < 3 {
			t.Errorf("the write sets met the answer %d %d times alone", code, codes[code])
		}
	}
}

// TestP1204AgainstRecords: each call of a view is answered by a graph in memory as by a store of records with that graph.
func TestP1204AgainstRecords(t *testing.T) {
	st := stored(t)
	must(st.Apply(api.Delta{NewNodes: list(nd(-1, "city", pr("pop", num(5))), nd(-2, "city"), nd(-3, "town", numbered(8)...)), NewEdges: list(ed(-1, "t", -1, -2), ed(-2, "t", -1, -1, pr("k", yes)), ed(-3, "t", -2, -1))}, false, true))
	must(st.Apply(api.Delta{DelEdges: ids(1)}, false, true))
	m := loaded(t, must(st.Graph()))
	all := func(v api.View) (out string) {
		note := func(got any, code api.Errno) { out += fmt.Sprintf("%+v %d\n", got, code) }
		for _, name := range append(noNames, "city", "town", "pop") {
			note(v.Nodes(name))
			for _, val := range append(noVals, null, num(5), cpx(5, 0), links[0]) {
				note(v.Find(name, "pop", val))
				note(v.Find("city", name, val))
			}
		}
		for _, id := range append(farIds, 1, 2, 3, 4) {
			note(v.Node(id))
			note(v.Edge(id))
			note(v.Out(id))
			note(v.In(id))
			note(nil, v.Hold(api.Res{Level: 3, Id: id}, int(id)))
		}
		return out
	}
	if got, want := all(m), all(st); got != want {
		t.Errorf("the graph in memory answers\n%s\nthe store\n%s", got, want)
	}
}

// TestP1213OverRecords: a space over a store of records: its write set is applied there, and leaves what the space showed.
func TestP1213OverRecords(t *testing.T) {
	r := rand.New(rand.NewPCG(12, 13))
	for range 12 {
		st := stored(t)
		for range 20 {
			s, twin := space.New(st), space.New(loaded(t, must(st.Graph())))
			for range r.IntN(25) {
				x := drawn(r, s.Mark())
				got, code := x.on(s)
				want, wantCode := x.on(twin)
				wants(t, "the call over the store", code, wantCode)
				same(t, "the call over the store", got, want)
			}
			x, g := s.Delta(), shown(s)
			got, code := st.Apply(x, false, true)
			if code == api.ErrFull {
				break
			}
			st.Checkpoint(1000)
			wants(t, "Apply of the space's write set", code, api.OK)
			same(t, "the graph behind it", must(st.Graph()), renamed(g, x, got))
			if t.Failed() {
				t.Fatalf("behind %+v", x)
			}
		}
	}
}
