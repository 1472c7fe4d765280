package records_test

import (
	"fmt"
	"math/rand/v2"
	"testing"

	"trellis/api"
	"trellis/disk"
	"trellis/index"
	"trellis/pages"
	"trellis/records"
	"trellis/slots"
	"trellis/value"
)

// rewritten: a disk with that store, of which somebody else has changed records.
func rewritten(t *testing.T, d *disk.Disk, change func(*slots.Batch)) *disk.Disk {
	t.Helper()
	c := loaded(t, d.Image())
	s := belowOn(t, c)
	b := must(s.Begin())
	change(b)
	_, code := b.Commit(false, true)
	wants(t, "the slots' Commit", code, api.OK)
	return c
}

// zeroWith: with an error every other result is zero.
func zeroWith[T any](t *testing.T, what string, got T, code api.Errno) {
	t.Helper()
	var zero T
	if code != api.OK && fmt.Sprintf("%+v", got) != fmt.Sprintf("%+v", zero) {
		t.Errorf("%s = %+v with the error %d", what, got, code)
	}
}

// storable: whatever is told as a property is one.
func storable(t *testing.T, told []api.Prop) {
	t.Helper()
	for _, p := range told {
		if !value.Name(p.Key) || !value.Storable(p.Val) {
			t.Errorf("the property %+v is told", p)
		}
	}
}

// readAll: every call that reads ends, and none panics.
func readAll(t *testing.T, s *records.Store) {
	t.Helper()
	g, code := s.Graph()
	zeroWith(t, "Graph", g, code)
	n, code := s.Commits()
	zeroWith(t, "Commits", n, code)
	for _, label := range []string{"", "city", "a"} {
		ids, code := s.Nodes(label)
		zeroWith(t, "Nodes", ids, code)
		for _, v := range []api.Val{num(5), yes, str("ulm")} {
			ids, code := s.Find("city", "pop", v)
			zeroWith(t, "Find", ids, code)
		}
	}
	for id := range int64(capsOf(s.Sizes())[1]) + 2 {
		node, code := s.Node(id)
		zeroWith(t, "Node", node, code)
		storable(t, node.Props)
		edge, code := s.Edge(id)
		zeroWith(t, "Edge", edge, code)
		storable(t, edge.Props)
		ids, code := s.Out(id)
		zeroWith(t, "Out", ids, code)
		ids, code = s.In(id)
		zeroWith(t, "In", ids, code)
	}
}

// changeAll: every kind of write set ends; what it leaves is free.
func changeAll(t *testing.T, s *records.Store, r *rand.Rand) {
	t.Helper()
	id := func() int64 { return 1 + r.Int64N(4) }
	for range 12 {
		x := []api.Delta{
			{DelEdges: list(id())}, {DelNodes: list(id())}, {DelEdges: list[int64](1, 2, 3), DelNodes: list[int64](1, 2)}, {SetNodes: list(to(id(), "pop", null))}, {SetNodes: list(to(id(), "pop", num(7)))},
			{SetEdges: list(to(id(), "len", null))}, {SetEdges: list(to(id(), "len", num(7)))}, {NewEdges: list(ed(-1, "t", id(), id()))}, {NewNodes: list(nd(-1, "a", numbered(2)...))},
		}[r.IntN(9)]
		held := r.IntN(2) == 0
		if held && s.Reserve() != api.OK {
			held = false
		}
		a, code := s.Apply(x, held, false)
		zeroWith(t, "Apply", a, code)
		if code != api.ErrLogFull && code != api.ErrPower {
			reserved(t, s, 0)
		}
		s.Checkpoint(1000)
	}
}

// TestP701WildRecords: whatever stands in the records, every call ends and none panics.
func TestP701WildRecords(t *testing.T) {
	r := rand.New(rand.NewPCG(7, 1))
	base, _ := grown(t, 200, wide, rich, api.Delta{NewNodes: list(nd(-1, "a", numbered(8)...)), NewEdges: list(ed(-1, "t", -1, 1, numbered(4)...), ed(-2, "t", -1, -1))})
	lengths := [5]int{1: 20, 2: 36, 3: 48, 4: 118}
	for range 400 {
		d := rewritten(t, base, func(b *slots.Batch) {
			b.SetRoot(7, 1)
			for range 1 + r.IntN(3) {
				kind := 1 + r.IntN(4)
				used := must(b.Used(kind))
				if len(used) == 0 {
					continue
				}
				id := used[r.IntN(len(used))]
				rec := must(b.Get(kind, id))
				switch r.IntN(6) {
				case 0:
					b.Free(kind, id)
					continue
				case 1:
					for i := range rec {
						rec[i] = byte(r.IntN(256))
					}
				case 2:
					b.SetRoot(r.IntN(4), r.Int64N(30)-2)
				case 3: // an id of the record
					if kind < 4 {
						rec[6+4*r.IntN((lengths[kind]-6)/4)+3] = byte(r.IntN(12))
					}
				default:
					rec[r.IntN(len(rec))] = byte(r.IntN(256))
				}
				b.Put(kind, id, rec)
			}
		})
		s := opens(t, d)
		readAll(t, s)
		changeAll(t, s, r)
		readAll(t, s)
	}
}

// TestP701Rings: chains that go in a ring, or to nothing, end, and change nothing.
func TestP701Rings(t *testing.T) {
	base, _ := grown(t, 200, wide, rich)
	patch := func(kind int, id int64, at int, to byte) func(*slots.Batch) {
		return func(b *slots.Batch) {
			rec := must(b.Get(kind, id))
			rec[at] = to
			b.Put(kind, id, rec)
		}
	}
	for _, change := range []func(*slots.Batch){
		patch(2, 1, 21, 1), patch(2, 1, 29, 1), patch(2, 3, 21, 3), patch(3, 1, 13, 1), patch(3, 2, 13, 1), patch(3, 4, 13, 4), // rings
		patch(2, 1, 21, 9), patch(3, 1, 13, 30), patch(1, 1, 9, 9), patch(1, 1, 13, 9), patch(1, 1, 17, 9), patch(2, 1, 33, 9), // to nothing
		patch(1, 1, 0, 255), patch(2, 1, 0, 255), patch(3, 1, 0, 255), patch(3, 1, 14, 0), patch(3, 1, 14, 9), patch(3, 1, 14, 5), patch(3, 1, 15, 33), patch(3, 1, 15, 255), patch(3, 1, 16, 255), patch(3, 4, 24, 1), // no names, no values
	} {
		d := rewritten(t, base, change)
		s := opens(t, d)
		readAll(t, s)
		for _, x := range []api.Delta{{DelEdges: list[int64](1, 2), DelNodes: list[int64](1)}, {DelEdges: list[int64](3), DelNodes: list[int64](3)}, {SetNodes: list(to(1, "zz", yes))}, {SetEdges: list(to(1, "zz", yes))}} {
			still := unmoved(t, d, s)
			if a, code := s.Apply(x, false, true); code != api.OK {
				zeroWith(t, "Apply", a, code)
				still()
			}
		}
	}
}

// TestP701BrokenHomes: a page that cannot be read ends each call that needs it, with nothing changed.
func TestP701BrokenHomes(t *testing.T) {
	base, s := grown(t, 200, wide, rich)
	must(s.Checkpoint(1000))
	for page := range pagesOf(wide) {
		image := base.Image()
		image[(1+200+page)*size+40] ^= 1
		d := loaded(t, image)
		s, code := records.Open(d)
		if code != api.OK {
			wants(t, "Open", code, api.ErrPage)
			continue
		}
		readAll(t, s)
		for _, x := range []api.Delta{nodesOf(1), {DelEdges: list[int64](1)}, {SetNodes: list(to(1, "pop", null))}, {}} {
			wants(t, "Reserve", s.Reserve(), api.OK)
			still := must(s.Commits())
			if _, code := s.Apply(x, true, true); code != api.OK {
				wants(t, "Apply", code, api.ErrPage)
				counts(t, s, still)
				if isEmpty(x) {
					t.Errorf("a write set that asks nothing of the graph is refused")
				}
			}
			reserved(t, s, 0)
		}
	}
}

// TestP706Dropped: an error of the index in the midst of a write set is the answer, nothing has changed, and the next one is applied.
func TestP706Dropped(t *testing.T) {
	base, _ := grown(t, 200, wide, rich)
	d := rewritten(t, base, func(b *slots.Batch) {
		wants(t, "the index's Delete", index.Delete(b, key("city", "pop", num(5), 1)), api.OK)
	})
	s := opens(t, d)
	for _, held := range []bool{false, true} {
		for _, x := range []api.Delta{{SetNodes: list(to(1, "pop", null))}, {SetNodes: list(to(1, "a", yes), to(1, "pop", num(6)))}, {DelEdges: list[int64](1, 2), DelNodes: list[int64](1)}} {
			if held {
				wants(t, "Reserve", s.Reserve(), api.OK)
			}
			was := must(s.Graph())
			a, code := s.Apply(x, held, true)
			wants(t, "Apply", code, api.ErrAbsent)
			same(t, "Apply", a, api.Applied{})
			same(t, "Graph", must(s.Graph()), was)
			reserved(t, s, 0)
		}
		counts(t, s, 1)
	}
	applies(t, s, nodesOf(1), list[int64](4), nil)
}

// TestP701WildPages: pages of the slots themselves with any bytes.
func TestP701WildPages(t *testing.T) {
	r := rand.New(rand.NewPCG(7, 2))
	base, _ := grown(t, 200, wide, rich)
	for range 100 {
		d := loaded(t, base.Image())
		p := must(pages.Open(d))
		var batch []api.PageImage
		for page := 1; page < pagesOf(wide); page++ {
			if data := must(p.Read(page)); r.IntN(8) == 0 {
				for i := range data {
					data[i] = byte(r.IntN(256))
				}
				batch = append(batch, api.PageImage{Page: page, Data: data})
			}
		}
		p.Commit(batch, 0, true)
		s := opens(t, d)
		readAll(t, s)
		changeAll(t, s, r)
	}
}

// TestP701Crashed: a store whose disk has crashed, or on which another one was opened, still ends every call.
func TestP701Crashed(t *testing.T) {
	r := rand.New(rand.NewPCG(7, 3))
	for how := range 3 {
		d, s := grown(t, 60, wide, rich)
		switch how {
		case 0:
			d.Crash(nil)
		case 1:
			opens(t, d)
		case 2:
			wants(t, "Format", records.Format(d, 20, small), api.OK)
		}
		readAll(t, s)
		for range 20 {
			s.Apply(maker{r, newBook(t, wide)}.delta(), false, true)
			s.Apply(rich, false, true)
		}
		readAll(t, s)
	}
}
