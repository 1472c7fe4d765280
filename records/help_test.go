package records_test

import (
	"bytes"
	"encoding/binary"
	"fmt"
	"math"
	"slices"
	"testing"

	"trellis/api"
	"trellis/disk"
	"trellis/records"
	"trellis/slots"
	"trellis/value"
)

const size = 128

// small: the sizes of the chapter's examples. wide: more of everything.
var (
	small = api.Sizes{Node: 1, Edge: 1, Prop: 2, Tree: 4}
	wide  = api.Sizes{Node: 4, Edge: 6, Prop: 20, Tree: 24}
)

// capsOf: of each kind: the ids that there are.
func capsOf(z api.Sizes) [5]int {
	return [5]int{1: 5 * z.Node, 2: 3 * z.Edge, 3: 2 * z.Prop, 4: z.Tree}
}

func pagesOf(z api.Sizes) int { return 1 + z.Node + z.Edge + z.Prop + z.Tree }

// Values.
var (
	null    = api.Val{}
	yes     = api.Val{Kind: api.KBool, A: 1}
	no      = api.Val{Kind: api.KBool}
	noVals  = []api.Val{{Kind: 9}, {Kind: -1}, {Kind: api.KNull, A: 1}, {Kind: api.KNull, S: "a"}, {Kind: api.KBool, A: 2}, {Kind: api.KInt, B: 1}, {Kind: api.KInt, S: "x"}, {Kind: api.KCpx, A: 1<<25 + 1}, {Kind: api.KStr, S: "\xff"}, {Kind: api.KStr, S: "123456789012345678901234567890123"}, {Kind: api.KNode}, {Kind: api.KEdge, A: 1, B: 1}}
	noNames = []string{"", "A", "City", "1a", "a_b", "ninechars", "a b", "é", "a\x00"}
)

func num(n int64) api.Val    { return api.Val{Kind: api.KInt, A: n} }
func cpx(a, b int64) api.Val { return api.Val{Kind: api.KCpx, A: a, B: b} }
func str(s string) api.Val   { return api.Val{Kind: api.KStr, S: s} }
func toNode(n int64) api.Val { return api.Val{Kind: api.KNode, A: n} }
func toEdge(n int64) api.Val { return api.Val{Kind: api.KEdge, A: n} }

func pr(key string, v api.Val) api.Prop { return api.Prop{Key: key, Val: v} }

// numbered: n properties with keys that rise: a, b, ..
func numbered(n int) (out []api.Prop) {
	for i := range n {
		out = append(out, pr(string(rune('a'+i)), num(int64(i))))
	}
	return out
}

func nd(id int64, label string, props ...api.Prop) api.Node {
	return api.Node{Id: id, Label: label, Props: props}
}

func ed(id int64, kind string, from, to int64, props ...api.Prop) api.Edge {
	return api.Edge{Id: id, Type: kind, From: from, To: to, Props: props}
}

func to(id int64, key string, v api.Val) api.PropSet { return api.PropSet{Id: id, Key: key, Val: v} }

func list[T any](of ...T) []T { return of }

// nodesOf: a write set that makes n nodes without properties.
func nodesOf(n int) (x api.Delta) {
	for i := range n {
		x.NewNodes = append(x.NewNodes, nd(int64(-1-i), "a"))
	}
	return x
}

// wants: is the answer of a call the one that is wanted?
func wants(t *testing.T, what string, got, want api.Errno) {
	t.Helper()
	if got != want {
		t.Errorf("%s = %d, want %d", what, got, want)
	}
}

// must: the result of a call that has no error.
func must[T any](out T, code api.Errno) T {
	if code != api.OK {
		panic(code)
	}
	return out
}

// same: do the two tell the same? (A list that is nil tells the same as one without elements.)
func same(t *testing.T, what string, got, want any) {
	t.Helper()
	if g, w := fmt.Sprintf("%+v", got), fmt.Sprintf("%+v", want); g != w {
		t.Errorf("%s = %s, want %s", what, g, w)
	}
}

// loaded: a disk with those bytes, all of them flushed.
func loaded(t *testing.T, image []byte) *disk.Disk {
	t.Helper()
	d, code := disk.Load(image)
	wants(t, "Load", code, api.OK)
	return d
}

// formatted: a disk with an empty graph, which had other bytes before.
func formatted(t *testing.T, log int, z api.Sizes) *disk.Disk {
	t.Helper()
	d := loaded(t, bytes.Repeat([]byte{201}, (1+log+pagesOf(z))*size))
	wants(t, "Format", records.Format(d, log, z), api.OK)
	return d
}

// made: an empty graph that was just opened.
func made(t *testing.T, log int, z api.Sizes) (*disk.Disk, *records.Store) {
	t.Helper()
	d := formatted(t, log, z)
	return d, opens(t, d)
}

func opens(t *testing.T, d *disk.Disk) *records.Store {
	t.Helper()
	s, code := records.Open(d)
	if s == nil || code != api.OK {
		t.Fatalf("Open = %v, %d, want a store", s, code)
	}
	return s
}

// grown: a store in which these write sets were applied, one behind the other.
func grown(t *testing.T, log int, z api.Sizes, xs ...api.Delta) (*disk.Disk, *records.Store) {
	t.Helper()
	d, s := made(t, log, z)
	for i, x := range xs {
		if _, code := s.Apply(x, false, true); code != api.OK {
			t.Fatalf("the write set number %d = %d", i, code)
		}
	}
	return d, s
}

// below: the slots of what lasts on the disk.
func below(t *testing.T, d *disk.Disk) *slots.Store {
	t.Helper()
	return belowOn(t, loaded(t, d.Image()))
}

// belowOn: the slots on that disk itself.
func belowOn(t *testing.T, d *disk.Disk) *slots.Store {
	t.Helper()
	s, code := slots.Open(d)
	if s == nil || code != api.OK {
		t.Fatalf("the slots' Open = %v, %d", s, code)
	}
	return s
}

// holding: all records of a store, by kinds and ids, and the numbers of its root page.
func holding(t *testing.T, s *slots.Store) string {
	t.Helper()
	var out []string
	for kind := 1; kind <= 4; kind++ {
		ids, code := s.Used(kind)
		wants(t, "Used", code, api.OK)
		for _, id := range ids {
			rec, code := s.Get(kind, id)
			wants(t, "Get", code, api.OK)
			out = append(out, fmt.Sprintf("%d/%d: % x\n", kind, id, rec))
		}
	}
	for i := range 8 {
		v, code := s.Root(i)
		wants(t, "Root", code, api.OK)
		out = append(out, fmt.Sprintf("root %d: %d\n", i, v))
	}
	return fmt.Sprint(out)
}

// applies: the write set is applied, and lasts; the new nodes and edges get these ids.
func applies(t *testing.T, s *records.Store, x api.Delta, nodes, edges []int64) {
	t.Helper()
	lsn := s.Stat().Log.Next
	got, code := s.Apply(x, false, true)
	wants(t, "Apply", code, api.OK)
	same(t, "Apply", got, api.Applied{Nodes: nodes, Edges: edges, Lsn: lsn})
	if s.Stat().Log.Next == lsn {
		t.Errorf("nothing was written")
	}
}

// refuses: the write set is answered with that error, and nothing has changed.
func refuses(t *testing.T, d *disk.Disk, s *records.Store, x api.Delta, want api.Errno) {
	t.Helper()
	still := unmoved(t, d, s)
	got, code := s.Apply(x, false, true)
	if code != want {
		t.Errorf("Apply(%+v) = %d, want %d", x, code, want)
	}
	same(t, "Apply", got, api.Applied{})
	still()
}

// unmoved: a function that says whether graph and disk are as they were when unmoved was called.
func unmoved(t *testing.T, d *disk.Disk, s *records.Store) func() {
	t.Helper()
	tell := func() string {
		g, a := s.Graph()
		n, b := s.Commits()
		return fmt.Sprintf("%+v %d %d %d %+v %+v %v", g, a, n, b, s.Stat(), d.Stat(), d.Pending())
	}
	was, image := tell(), d.Image()
	return func() {
		t.Helper()
		if now := tell(); now != was || !bytes.Equal(image, d.Image()) {
			t.Errorf("it has changed: %s, want %s", now, was)
		}
	}
}

// tells: the whole graph, by every call that reads.
func tells(t *testing.T, s *records.Store, want api.Graph) {
	t.Helper()
	got, code := s.Graph()
	wants(t, "Graph", code, api.OK)
	same(t, "Graph", got, want)
	readsNodes(t, s, want)
	readsEdges(t, s, want)
}

func readsNodes(t *testing.T, s *records.Store, g api.Graph) {
	t.Helper()
	var all []int64
	byLabel := map[string][]int64{}
	for _, n := range g.Nodes {
		all = append(all, n.Id)
		byLabel[n.Label] = append(byLabel[n.Label], n.Id)
		got, code := s.Node(n.Id)
		wants(t, "Node", code, api.OK)
		same(t, "Node", got, n)
		for _, p := range n.Props {
			ids := having(g, n.Label, p)
			found(t, s, n.Label, p.Key, p.Val, ids...)
		}
	}
	noded(t, s, "", all...)
	for label, ids := range byLabel {
		noded(t, s, label, ids...)
	}
	for id := range int64(capsOf(s.Sizes())[1]) + 2 {
		if !slices.Contains(all, id) {
			unread(t, s, id, api.ErrNoNode)
		}
	}
}

// having: the nodes of that label with just that property.
func having(g api.Graph, label string, p api.Prop) (out []int64) {
	for _, n := range g.Nodes {
		if n.Label == label && slices.Contains(n.Props, p) {
			out = append(out, n.Id)
		}
	}
	return out
}

func readsEdges(t *testing.T, s *records.Store, g api.Graph) {
	t.Helper()
	var all []int64
	outs, ins := map[int64][]int64{}, map[int64][]int64{}
	for _, e := range g.Edges {
		all = append(all, e.Id)
		outs[e.From] = append(outs[e.From], e.Id)
		ins[e.To] = append(ins[e.To], e.Id)
		got, code := s.Edge(e.Id)
		wants(t, "Edge", code, api.OK)
		same(t, "Edge", got, e)
	}
	for _, n := range g.Nodes {
		outed(t, s, n.Id, outs[n.Id]...)
		inned(t, s, n.Id, ins[n.Id]...)
	}
	for id := range int64(capsOf(s.Sizes())[2]) + 2 {
		if !slices.Contains(all, id) {
			e, code := s.Edge(id)
			wants(t, "Edge", code, api.ErrNoEdge)
			same(t, "Edge", e, api.Edge{})
		}
	}
}

// unread: the calls that read a node answer that error.
func unread(t *testing.T, s *records.Store, id int64, want api.Errno) {
	t.Helper()
	n, code := s.Node(id)
	wants(t, "Node", code, want)
	same(t, "Node", n, api.Node{})
	ids, code := s.Out(id)
	wants(t, "Out", code, want)
	same(t, "Out", ids, []int64{})
	ids, code = s.In(id)
	wants(t, "In", code, want)
	same(t, "In", ids, []int64{})
}

func noded(t *testing.T, s *records.Store, label string, want ...int64) {
	t.Helper()
	got, code := s.Nodes(label)
	wants(t, "Nodes", code, api.OK)
	same(t, "Nodes of "+label, got, want)
}

func found(t *testing.T, s *records.Store, label, key string, v api.Val, want ...int64) {
	t.Helper()
	got, code := s.Find(label, key, v)
	wants(t, "Find", code, api.OK)
	same(t, fmt.Sprint("Find ", label, key, v), got, want)
}

func outed(t *testing.T, s *records.Store, id int64, want ...int64) {
	t.Helper()
	got, code := s.Out(id)
	wants(t, "Out", code, api.OK)
	same(t, fmt.Sprint("Out of ", id), got, want)
}

func inned(t *testing.T, s *records.Store, id int64, want ...int64) {
	t.Helper()
	got, code := s.In(id)
	wants(t, "In", code, api.OK)
	same(t, fmt.Sprint("In of ", id), got, want)
}

func counts(t *testing.T, s *records.Store, want int64) {
	t.Helper()
	if got, code := s.Commits(); got != want || code != api.OK {
		t.Errorf("Commits = %d, %d, want %d", got, code, want)
	}
}

// off: the store meets the loss of power, and is dead.
func off(t *testing.T, d *disk.Disk, s *records.Store) {
	t.Helper()
	wants(t, "Cut", d.Cut(0), api.OK)
	_, code := s.Apply(nodesOf(1), false, true)
	wants(t, "Apply", code, api.ErrPower)
}

// Bytes of records, as the chapter's table says.

func packed(name string) []byte {
	n, _ := value.Pack(name)
	return binary.BigEndian.AppendUint64(nil, uint64(n))[2:]
}

func ids(of ...int64) (out []byte) {
	for _, id := range of {
		out = binary.BigEndian.AppendUint32(out, uint32(id))
	}
	return out
}

func nodeRec(label string, out, in, prop int64) []byte {
	return slices.Concat(packed(label), ids(out, in, prop), make([]byte, 2))
}

// edgeRec: at: From, To, the neighbours in From's chain, those in To's, the first property.
func edgeRec(kind string, at [7]int64) []byte {
	return slices.Concat(packed(kind), ids(at[:]...), make([]byte, 2))
}

func propRec(key string, ahead, behind int64, v api.Val) []byte {
	out := slices.Concat(packed(key), ids(ahead, behind), []byte{byte(v.Kind), byte(len(v.S))})
	if v.Kind == api.KStr {
		out = append(out, v.S...)
	} else {
		out = binary.BigEndian.AppendUint64(out, uint64(v.A))
		out = binary.BigEndian.AppendUint64(out, uint64(v.B))
	}
	return append(out, make([]byte, 48-len(out))...)
}

// has: a record of what lasts.
func has(t *testing.T, s *slots.Store, kind int, id int64, want []byte) {
	t.Helper()
	if got, code := s.Get(kind, id); code != api.OK || !bytes.Equal(got, want) {
		t.Errorf("the record %d of kind %d = % x, %d, want % x", id, kind, got, code, want)
	}
}

// farIds: ids that no store has.
var farIds = []int64{0, -1, -2, math.MinInt64, math.MaxInt64, 1 << 31, 1 << 32, 1<<32 + 1, 1<<62 + 1}
