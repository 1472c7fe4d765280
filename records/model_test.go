package records_test

import (
	"cmp"
	"maps"
	"math/rand/v2"
	"slices"
	"strings"
	"testing"

	"trellis/api"
	"trellis/disk"
	"trellis/records"
)

// pool: values, some of them with the same eight bytes of a key.
var pool = []api.Val{yes, no, num(0), num(3), cpx(3, 0), num(-1), num(1 << 60), num(1<<60 + 1), str(""), str("a"), str("0123456789"), str("0123456780"), str("0123456"), cpx(-1<<25, 7)}

// maker: makes write sets of all sorts for a book.
type maker struct {
	r *rand.Rand
	b *book
}

func (m maker) value() api.Val    { return pool[m.r.IntN(len(pool))] }
func (m maker) key() string       { return string(rune('a' + m.r.IntN(11))) }
func (m maker) label() string     { return []string{"a", "b", "zz9"}[m.r.IntN(3)] }
func (m maker) chance(n int) bool { return m.r.IntN(n) == 0 }

// props: keys rising.
func (m maker) props(most int) (out []api.Prop) {
	for k := 'a'; k < 'l' && len(out) < most; k++ {
		if m.chance(4) {
			out = append(out, pr(string(k), m.value()))
		}
	}
	return out
}

// gone: some edges, some nodes, and mostly all edges of those nodes.
func (m maker) gone(x *api.Delta) {
	for _, id := range slices.Sorted(maps.Keys(m.b.nodes)) {
		if m.chance(8) {
			x.DelNodes = append(x.DelNodes, id)
		}
	}
	for _, id := range slices.Sorted(maps.Keys(m.b.edges)) {
		e := m.b.edges[id]
		if slices.Contains(x.DelNodes, e.from) || slices.Contains(x.DelNodes, e.to) {
			if !m.chance(20) {
				x.DelEdges = append(x.DelEdges, id)
			}
		} else if m.chance(8) {
			x.DelEdges = append(x.DelEdges, id)
		}
	}
}

// fresh: new nodes and edges.
func (m maker) fresh(x *api.Delta) {
	ends := slices.DeleteFunc(slices.Sorted(maps.Keys(m.b.nodes)), func(id int64) bool { return slices.Contains(x.DelNodes, id) })
	id := int64(0)
	for range m.r.IntN(4) {
		id -= 1 + m.r.Int64N(2)
		x.NewNodes = append(x.NewNodes, nd(id, m.label(), m.props(m.r.IntN(9))...))
		ends = append(ends, id)
	}
	id = 0
	for range m.r.IntN(5) {
		if len(ends) > 0 {
			id -= 1 + m.r.Int64N(2)
			x.NewEdges = append(x.NewEdges, ed(id, m.label(), ends[m.r.IntN(len(ends))], ends[m.r.IntN(len(ends))], m.props(m.r.IntN(4))...))
		}
	}
}

// sets: of what stays.
func sets[T any](m maker, of map[int64]T, gone []int64) (out []api.PropSet) {
	stay := slices.DeleteFunc(slices.Sorted(maps.Keys(of)), func(id int64) bool { return slices.Contains(gone, id) })
	for range m.r.IntN(7) {
		if len(stay) > 0 {
			v := m.value()
			if m.chance(2) {
				v = null
			}
			out = append(out, to(stay[m.r.IntN(len(stay))], m.key(), v))
		}
	}
	slices.SortFunc(out, func(a, b api.PropSet) int { return cmp.Or(cmp.Compare(a.Id, b.Id), strings.Compare(a.Key, b.Key)) })
	return slices.CompactFunc(out, func(a, b api.PropSet) bool { return a.Id == b.Id && a.Key == b.Key })
}

// delta: a write set, mostly one that can be applied.
func (m maker) delta() (x api.Delta) {
	if m.chance(2) {
		m.gone(&x)
	}
	if m.chance(2) {
		m.fresh(&x)
	}
	if m.chance(2) {
		x.SetNodes = sets(m, m.b.nodes, x.DelNodes)
	}
	if m.chance(2) {
		x.SetEdges = sets(m, m.b.edges, x.DelEdges)
	}
	if m.chance(4) {
		m.spoil(&x)
	}
	return x
}

// some: one of a list that has elements.
func some[T any](m maker, l []T) *T {
	if len(l) == 0 {
		return new(T)
	}
	return &l[m.r.IntN(len(l))]
}

// spoil: something of the write set is other than it was.
func (m maker) spoil(x *api.Delta) {
	id := m.r.Int64N(30) - 5
	v := slices.Concat(noVals, pool, []api.Val{toNode(1), null})[m.r.IntN(len(noVals)+len(pool)+2)]
	name := append(slices.Clone(noNames), "a", "b")[m.r.IntN(len(noNames)+2)]
	switch m.r.IntN(16) {
	case 0:
		*some(m, x.DelEdges) = id
	case 1:
		*some(m, x.DelNodes) = id
	case 2:
		some(m, x.NewNodes).Id = id
	case 3:
		some(m, x.NewEdges).Id = id
	case 4:
		some(m, x.NewEdges).From = id
	case 5:
		some(m, x.NewEdges).To = id
	case 6:
		some(m, x.SetNodes).Id = id
	case 7:
		some(m, x.SetEdges).Id = id
	case 8:
		some(m, x.NewNodes).Label = name
	case 9:
		some(m, x.NewEdges).Type = name
	case 10:
		some(m, x.SetNodes).Key = name
	case 11:
		some(m, x.SetEdges).Key = name
	case 12:
		some(m, x.SetNodes).Val = v
	case 13:
		some(m, x.SetEdges).Val = v
	case 14:
		*some(m, some(m, x.NewNodes).Props) = pr(name, v)
	case 15:
		some(m, x.NewEdges).Props = append(m.props(9), pr("l", v))
	}
}

// sweeps: the log has room for every commit.
func sweeps(t *testing.T, s *records.Store) {
	t.Helper()
	if s.Stat().Log.Free < roomOf(pagesOf(s.Sizes())) {
		_, code := s.Checkpoint(1000)
		wants(t, "Checkpoint", code, api.OK)
	}
}

// agree: the store has just the book's graph and records.
func agree(t *testing.T, d *disk.Disk, s *records.Store, b *book) {
	t.Helper()
	tells(t, s, b.graph())
	counts(t, s, b.commits)
	at := below(t, d)
	if got, want := holding(t, at), b.holding(t); got != want {
		t.Fatalf("the store holds\n%s\nwant\n%s", got, want)
	}
	sound(t, at)
}

// TestP704To717AgainstABook: write sets of all sorts, one behind the other, held against the second reckoning: answers, graph, every record.
func TestP704To717AgainstABook(t *testing.T) {
	r := rand.New(rand.NewPCG(7, 7))
	codes := map[api.Errno]int{}
	for range 30 {
		z := api.Sizes{Node: 1 + r.IntN(3), Edge: 1 + r.IntN(4), Prop: 1 + r.IntN(20), Tree: 1 + r.IntN(24)}
		d, s := made(t, 100, z)
		b := newBook(t, z)
		for range 60 {
			sweeps(t, s)
			x := maker{r, b}.delta()
			lsn := s.Stat().Log.Next
			got, code := s.Apply(x, false, true)
			want, wantCode := b.apply(t, x)
			codes[code]++
			if code == api.OK && !isEmpty(x) {
				want.Lsn = lsn
			}
			wants(t, "Apply", code, wantCode)
			same(t, "Apply", got, want)
			if code == api.OK {
				agree(t, d, s, b)
			}
			if t.Failed() {
				t.Fatalf("behind %+v", x)
			}
		}
		agree(t, d, s, b)
	}
	for _, code := range []api.Errno{api.OK, api.ErrNoNode, api.ErrNoEdge, api.ErrHasEdges, api.ErrName, api.ErrProps, api.ErrFull, api.ErrDelta} {
		if codes[code] < 3 {
			t.Errorf("the write sets met the answer %d %d times alone", code, codes[code])
		}
	}
}
