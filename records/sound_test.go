package records_test

import (
	"encoding/binary"
	"math/rand/v2"
	"slices"
	"testing"

	"trellis/api"
	"trellis/slots"
	"trellis/value"
)

// field: the id that stands at that byte of a record.
func field(rec []byte, at int) int64 { return int64(binary.BigEndian.Uint32(rec[at:])) }

func nameIn(rec []byte) string {
	return must(value.Unpack(int64(binary.BigEndian.Uint64(slices.Concat(make([]byte, 2), rec[:6])))))
}

// along: the records of a chain from its first on; each one's neighbour ahead is the one that was met before it.
func along(t *testing.T, s *slots.Store, kind int, first int64, ahead, behind int) (out []int64) {
	t.Helper()
	last := int64(0)
	for id := first; id != 0 && !t.Failed(); {
		rec, code := s.Get(kind, id)
		if code != api.OK || field(rec, ahead) != last || slices.Contains(out, id) {
			t.Fatalf("a chain of the kind %d from %d: %v, then %d: % x, %d", kind, first, out, id, rec, code)
		}
		out = append(out, id)
		last, id = id, field(rec, behind)
	}
	return out
}

// sound: the chains, the properties and the index are as P717 says.
func sound(t *testing.T, s *slots.Store) {
	t.Helper()
	var props []int64
	var keys []api.Key
	chain := func(first int64, label string, id int64) {
		t.Helper()
		last := ""
		for _, p := range along(t, s, 3, first, 6, 10) {
			rec := must(s.Get(3, p))
			if nameIn(rec) <= last {
				t.Fatalf("the key %s stands behind %s", nameIn(rec), last)
			}
			last = nameIn(rec)
			props = append(props, p)
			if label != "" {
				keys = append(keys, key(label, last, valueIn(rec), id))
			}
		}
	}
	outs, ins := map[int64][]int64{}, map[int64][]int64{}
	for _, id := range must(s.Used(1)) {
		rec := must(s.Get(1, id))
		outs[id] = along(t, s, 2, field(rec, 6), 14, 18)
		ins[id] = along(t, s, 2, field(rec, 10), 22, 26)
		chain(field(rec, 14), nameIn(rec), id)
	}
	edges := must(s.Used(2))
	for _, id := range edges {
		rec := must(s.Get(2, id))
		if !slices.Contains(outs[field(rec, 6)], id) || !slices.Contains(ins[field(rec, 10)], id) {
			t.Fatalf("the edge %d is not in the chains of its ends: %v, %v", id, outs, ins)
		}
		chain(field(rec, 30), "", 0)
	}
	met := 0
	for id := range outs {
		met += len(outs[id]) + len(ins[id])
	}
	same(t, "the edges of the chains", met, 2*len(edges))
	slices.Sort(props)
	same(t, "the properties", props, must(s.Used(3)))
	slices.SortFunc(keys, func(a, b api.Key) int { return slices.Compare(a[:], b[:]) })
	keyed(t, s, keys...)
	validTree(t, s, len(keys))
}

// valueIn: the value of a property's record.
func valueIn(rec []byte) api.Val {
	v := api.Val{Kind: int(rec[14])}
	if v.Kind == api.KStr {
		v.S = string(rec[16 : 16+rec[15]])
	} else {
		v.A, v.B = int64(binary.BigEndian.Uint64(rec[16:])), int64(binary.BigEndian.Uint64(rec[24:]))
	}
	return v
}

// validTree: the tree has so many keys, and no record but its nodes; each node but the root has two keys at least.
func validTree(t *testing.T, s *slots.Store, keys int) {
	t.Helper()
	root, height := must(s.Root(0)), must(s.Root(2))
	same(t, "RootKeys", must(s.Root(1)), keys)
	if keys == 0 {
		same(t, "the root page of no keys", list(root, height), list(0, 0))
	}
	found, nodes := 0, 0
	level := list(root)
	for depth := range height {
		var next []int64
		for _, id := range level {
			rec := must(s.Get(4, id))
			nodes++
			c := int(rec[1])
			if c > 4 || c < 1 || depth > 0 && c < 2 || int(rec[0]) != map[bool]int{true: 1, false: 2}[depth == height-1] {
				t.Fatalf("the node %d at depth %d of %d: % x", id, depth, height, rec)
			}
			if depth == height-1 {
				found += c
				continue
			}
			for i := range c + 1 {
				next = append(next, field(rec, 98+4*i))
			}
		}
		level = next
	}
	same(t, "keys and nodes", list(found, nodes), list(keys, len(must(s.Used(4)))))
}

// TestP717SoundChains: behind every write set, applied or refused, and behind every opening.
func TestP717SoundChains(t *testing.T) {
	r := rand.New(rand.NewPCG(7, 17))
	d, s := made(t, 150, wide)
	sound(t, below(t, d))
	for i := range 150 {
		sweeps(t, s)
		g := newBook(t, wide)
		for _, n := range must(s.Graph()).Nodes {
			g.nodes[n.Id] = &bookNode{label: n.Label}
		}
		for _, e := range must(s.Graph()).Edges {
			g.edges[e.Id] = &bookEdge{kind: e.Type, from: e.From, to: e.To}
		}
		s.Apply(maker{r, g}.delta(), false, true)
		sound(t, below(t, d))
		if i%20 == 0 {
			s = opens(t, d)
		}
	}
	if n := must(s.Commits()); n < 50 {
		t.Errorf("%d write sets were applied alone", n)
	}
}
