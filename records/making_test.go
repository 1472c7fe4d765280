package records_test

import (
	"bytes"
	"math"
	"testing"

	"trellis/api"
	"trellis/disk"
	"trellis/records"
	"trellis/slots"
)

// noSizes: no store of a graph has them.
var noSizes = []api.Sizes{
	{}, {Node: 0, Edge: 1, Prop: 1, Tree: 1}, {Node: 1, Edge: 0, Prop: 1, Tree: 1}, {Node: 1, Edge: 1, Prop: 0, Tree: 1}, {Node: 1, Edge: 1, Prop: 1, Tree: 0},
	{Node: -1, Edge: 1, Prop: 1, Tree: 1}, {Node: 1, Edge: -5, Prop: 9, Tree: 1}, {Node: 1, Edge: 1, Prop: math.MinInt, Tree: 1}, {Node: 1, Edge: 1, Prop: 300, Tree: -200},
	{Node: 253, Edge: 1, Prop: 1, Tree: 1}, {Node: 1, Edge: 253, Prop: 1, Tree: 1}, {Node: 1, Edge: 1, Prop: 253, Tree: 1}, {Node: 1, Edge: 1, Prop: 1, Tree: 253},
	{Node: 64, Edge: 64, Prop: 64, Tree: 64}, {Node: 256, Edge: 1, Prop: 1, Tree: 1},
	{Node: math.MaxInt, Edge: 1, Prop: 1, Tree: 1}, {Node: 1 << 62, Edge: 1 << 62, Prop: 1 << 62, Tree: 1 << 62}, {Node: math.MaxInt, Edge: math.MaxInt, Prop: 2, Tree: 1},
}

// TestP702Caps: five nodes, three edges, two properties, one key a page; nothing of sizes that no store has.
func TestP702Caps(t *testing.T) {
	for _, z := range []api.Sizes{small, wide, {Node: 1, Edge: 1, Prop: 1, Tree: 1}, {Node: 252, Edge: 1, Prop: 1, Tree: 1}, {Node: 1, Edge: 252, Prop: 1, Tree: 1}, {Node: 1, Edge: 1, Prop: 252, Tree: 1}, {Node: 1, Edge: 1, Prop: 1, Tree: 252}, {Node: 64, Edge: 64, Prop: 64, Tree: 63}} {
		nodes, edges, props, keys := records.Caps(z)
		same(t, "Caps", list(nodes, edges, props, keys), list(5*z.Node, 3*z.Edge, 2*z.Prop, z.Tree))
	}
	for _, z := range noSizes {
		nodes, edges, props, keys := records.Caps(z)
		same(t, "Caps", list(nodes, edges, props, keys), list(0, 0, 0, 0))
	}
}

// TestP703FormatFaults: sizes that are none, no disk, and what the slots refuse; the disk is left alone.
func TestP703FormatFaults(t *testing.T) {
	wants(t, "Format", records.Format(nil, 30, small), api.ErrArg)
	d, _ := disk.New(600)
	for _, z := range noSizes {
		wants(t, "Format", records.Format(d, 30, z), api.ErrArg)
	}
	wants(t, "Format", records.Format(d, 3, small), api.ErrArg)
	wants(t, "Format", records.Format(d, 592, small), api.ErrArg)
	if d.Stat() != (api.DiskStat{}) {
		t.Errorf("the disk was touched: %+v", d.Stat())
	}
	d.Cut(5)
	wants(t, "Format", records.Format(d, 30, small), api.ErrPower)
}

// TestP703Format: it does just what the slots' Format does.
func TestP703Format(t *testing.T) {
	for _, z := range []api.Sizes{small, wide, {Node: 64, Edge: 64, Prop: 64, Tree: 63}} {
		a, b := loaded(t, bytes.Repeat([]byte{7}, size*400)), loaded(t, bytes.Repeat([]byte{7}, size*400))
		wants(t, "Format", records.Format(a, 30, z), api.OK)
		wants(t, "the slots' Format", slots.Format(b, 30, z), api.OK)
		if !bytes.Equal(a.Image(), b.Image()) || a.Stat() != b.Stat() {
			t.Errorf("Format does %+v, the slots' %+v; or the bytes differ", a.Stat(), b.Stat())
		}
		s := opens(t, a)
		same(t, "Sizes", s.Sizes(), z)
		tells(t, s, api.Graph{})
		counts(t, s, 0)
	}
}

// TestP703Open: no disk, no store, no power; one write and one flush.
func TestP703Open(t *testing.T) {
	refused := func(d *disk.Disk, want api.Errno) {
		t.Helper()
		if s, code := records.Open(d); s != nil || code != want {
			t.Errorf("Open = %v, %d, want none, %d", s, code, want)
		}
	}
	refused(nil, api.ErrArg)
	d, _ := disk.New(64)
	refused(d, api.ErrNoStore)
	d, s := grown(t, 30, small, first)
	off(t, d, s)
	refused(d, api.ErrPower)
	d.Crash(nil)
	was := d.Stat()
	opens(t, d)
	if now := d.Stat(); now.Writes != was.Writes+1 || now.Flushes != was.Flushes+1 {
		t.Errorf("Open does %+v, behind %+v", now, was)
	}
}

// TestP701Nil: of no store.
func TestP701Nil(t *testing.T) {
	var s *records.Store
	codes := map[string]api.Errno{}
	a, code := s.Apply(first, true, true)
	codes["Apply"] = code
	n, code := s.Commits()
	codes["Commits"] = code
	g, code := s.Graph()
	codes["Graph"] = code
	nodes, code := s.Nodes("A")
	codes["Nodes"] = code
	hits, code := s.Find("", "", api.Val{Kind: 9})
	codes["Find"] = code
	node, code := s.Node(1)
	codes["Node"] = code
	edge, code := s.Edge(1)
	codes["Edge"] = code
	out, code := s.Out(1)
	codes["Out"] = code
	in, code := s.In(1)
	codes["In"] = code
	codes["Hold"] = s.Hold(api.Res{}, 0)
	most, code := s.Checkpoint(-1)
	codes["Checkpoint"] = code
	codes["Sync"], codes["Reserve"], codes["Release"] = s.Sync(), s.Reserve(), s.Release()
	for what, code := range codes {
		wants(t, what+" of no store", code, api.ErrArg)
	}
	same(t, "all of no store", list[any](a, n, g, nodes, hits, node, edge, out, in, most, s.Sizes(), s.Stat()),
		list[any](api.Applied{}, 0, api.Graph{}, []int64{}, []int64{}, api.Node{}, api.Edge{}, []int64{}, []int64{}, 0, api.Sizes{}, api.PageStat{}))
}
