package records_test

import (
	"cmp"
	"fmt"
	"maps"
	"slices"
	"strings"
	"testing"

	"trellis/api"
	"trellis/index"
	"trellis/slots"
	"trellis/value"
)

// book: a second reckoning of a graph: plain lists, from which all records are laid anew each time; the index's keys go into the tree of a slots store of its own.
type book struct {
	z       api.Sizes
	nodes   map[int64]*bookNode
	edges   map[int64]*bookEdge
	commits int64
	tree    *slots.Store
}

type bookProp struct {
	id int64
	api.Prop
}

type bookNode struct {
	label   string
	out, in []int64 // its chains
	props   []bookProp
}

type bookEdge struct {
	kind     string
	from, to int64
	props    []bookProp
}

func newBook(t *testing.T, z api.Sizes) *book {
	t.Helper()
	d := loaded(t, make([]byte, 1000*size))
	wants(t, "the slots' Format", slots.Format(d, 400, z), api.OK)
	return &book{z: z, nodes: map[int64]*bookNode{}, edges: map[int64]*bookEdge{}, tree: belowOn(t, d)}
}

// copied: without a tree.
func (b *book) copied() *book {
	out := &book{z: b.z, nodes: map[int64]*bookNode{}, edges: map[int64]*bookEdge{}, commits: b.commits}
	for id, n := range b.nodes {
		out.nodes[id] = &bookNode{n.label, slices.Clone(n.out), slices.Clone(n.in), slices.Clone(n.props)}
	}
	for id, e := range b.edges {
		out.edges[id] = &bookEdge{e.kind, e.from, e.to, slices.Clone(e.props)}
	}
	return out
}

// formFault: P704, by looking at each against each.
func formFault(x api.Delta) api.Errno {
	var made, goneNodes, goneEdges []int64
	ok := true
	for i, id := range x.DelEdges {
		ok = ok && id >= 1 && (i == 0 || id > x.DelEdges[i-1])
		goneEdges = append(goneEdges, id)
	}
	for i, id := range x.DelNodes {
		ok = ok && id >= 1 && (i == 0 || id > x.DelNodes[i-1])
		goneNodes = append(goneNodes, id)
	}
	for i, n := range x.NewNodes {
		ok = ok && n.Id < 0 && (i == 0 || n.Id < x.NewNodes[i-1].Id)
		made = append(made, n.Id)
	}
	for i, e := range x.NewEdges {
		ok = ok && e.Id < 0 && (i == 0 || e.Id < x.NewEdges[i-1].Id)
		for _, end := range []int64{e.From, e.To} {
			ok = ok && (slices.Contains(made, end) || end >= 1 && !slices.Contains(goneNodes, end))
		}
	}
	sets := func(l []api.PropSet, gone []int64) {
		for i, s := range l {
			ok = ok && s.Id >= 1 && !slices.Contains(gone, s.Id)
			ok = ok && (i == 0 || s.Id > l[i-1].Id || s.Id == l[i-1].Id && s.Key > l[i-1].Key)
		}
	}
	sets(x.SetNodes, goneNodes)
	sets(x.SetEdges, goneEdges)
	if !ok {
		return api.ErrDelta
	}
	return partsFault(x)
}

// partsFault: the names and the properties of P704.
func partsFault(x api.Delta) api.Errno {
	var names []string
	propsOk := true
	props := func(l []api.Prop) {
		for i, p := range l {
			names = append(names, p.Key)
			propsOk = propsOk && i < 8 && value.Storable(p.Val) && (i == 0 || p.Key > l[i-1].Key)
		}
	}
	for _, n := range x.NewNodes {
		names = append(names, n.Label)
		props(n.Props)
	}
	for _, e := range x.NewEdges {
		names = append(names, e.Type)
		props(e.Props)
	}
	for _, s := range slices.Concat(x.SetNodes, x.SetEdges) {
		names = append(names, s.Key)
		propsOk = propsOk && (s.Val == null || value.Storable(s.Val))
	}
	for _, s := range names {
		if !value.Name(s) {
			return api.ErrName
		}
	}
	if !propsOk {
		return api.ErrProps
	}
	return api.OK
}

// fault: P705, of a write set that is of the right form: what is not there; then what the graph would be behind it.
func (b *book) fault(x api.Delta) api.Errno {
	for _, id := range x.DelEdges {
		if b.edges[id] == nil {
			return api.ErrNoEdge
		}
	}
	for _, id := range x.DelNodes {
		if b.nodes[id] == nil {
			return api.ErrNoNode
		}
		for e, at := range b.edges {
			if (at.from == id || at.to == id) && !slices.Contains(x.DelEdges, e) {
				return api.ErrHasEdges
			}
		}
	}
	for _, e := range x.NewEdges {
		if e.From > 0 && b.nodes[e.From] == nil || e.To > 0 && b.nodes[e.To] == nil {
			return api.ErrNoNode
		}
	}
	for _, s := range x.SetNodes {
		if b.nodes[s.Id] == nil {
			return api.ErrNoNode
		}
	}
	for _, s := range x.SetEdges {
		if b.edges[s.Id] == nil {
			return api.ErrNoEdge
		}
	}
	return b.behind(x).tooMuch()
}

// behind: what the write set would leave.
func (b *book) behind(x api.Delta) *book {
	out := b.copied()
	out.carry(x, nil)
	return out
}

// tooMuch: is there more than the store holds, or than a node or an edge may have?
func (b *book) tooMuch() api.Errno {
	keys, props := 0, 0
	for _, n := range b.nodes {
		keys += len(n.props)
		if len(n.props) > 8 {
			return api.ErrProps
		}
	}
	for _, e := range b.edges {
		props += len(e.props)
		if len(e.props) > 8 {
			return api.ErrProps
		}
	}
	caps := capsOf(b.z)
	if len(b.nodes) > caps[1] || len(b.edges) > caps[2] || keys+props > caps[3] || keys > caps[4] {
		return api.ErrFull
	}
	return api.OK
}

// least: the least id from 1 on that is not taken.
func least[T any](taken map[int64]T) int64 {
	for id := int64(1); ; id++ {
		if _, there := taken[id]; !there {
			return id
		}
	}
}

// leastProp: likewise of the properties.
func (b *book) leastProp() int64 {
	taken := map[int64]int{}
	for _, n := range b.nodes {
		for _, p := range n.props {
			taken[p.id] = 1
		}
	}
	for _, e := range b.edges {
		for _, p := range e.props {
			taken[p.id] = 1
		}
	}
	return least(taken)
}

// without: the list without that one.
func without(l []int64, id int64) []int64 {
	return slices.DeleteFunc(l, func(x int64) bool { return x == id })
}

// placed: a key's property in its list, or where it would stand.
func placed(l []bookProp, key string) (int, bool) {
	return slices.BinarySearchFunc(l, key, func(p bookProp, key string) int { return strings.Compare(p.Key, key) })
}

// carry: P706, on plain lists; the index's changes are done in a batch, if there is one.
func (b *book) carry(x api.Delta, tree *slots.Batch) (out api.Applied) {
	touch := func(change func(*slots.Batch, api.Key) api.Errno, label string, p api.Prop, id int64) {
		if tree != nil {
			if code := change(tree, key(label, p.Key, p.Val, id)); code != api.OK {
				panic(fmt.Sprint("the book's tree: ", code))
			}
		}
	}
	for _, id := range x.DelEdges {
		e := b.edges[id]
		b.nodes[e.from].out = without(b.nodes[e.from].out, id)
		b.nodes[e.to].in = without(b.nodes[e.to].in, id)
		delete(b.edges, id)
	}
	for _, id := range x.DelNodes {
		for _, p := range b.nodes[id].props {
			touch(index.Delete, b.nodes[id].label, p.Prop, id)
		}
		delete(b.nodes, id)
	}
	for _, s := range x.SetNodes {
		n := b.nodes[s.Id]
		if i, there := placed(n.props, s.Key); there && s.Val == null {
			touch(index.Delete, n.label, n.props[i].Prop, s.Id)
			n.props = slices.Delete(n.props, i, i+1)
		}
	}
	for _, s := range x.SetEdges {
		e := b.edges[s.Id]
		if i, there := placed(e.props, s.Key); there && s.Val == null {
			e.props = slices.Delete(e.props, i, i+1)
		}
	}
	ids := map[int64]int64{}
	for _, made := range x.NewNodes {
		id, n := least(b.nodes), &bookNode{label: made.Label}
		b.nodes[id], ids[made.Id] = n, id
		for _, p := range made.Props {
			n.props = append(n.props, bookProp{b.leastProp(), p})
			touch(index.Insert, n.label, p, id)
		}
		out.Nodes = append(out.Nodes, id)
	}
	for _, made := range x.NewEdges {
		id, e := least(b.edges), &bookEdge{kind: made.Type, from: cmp.Or(ids[made.From], made.From), to: cmp.Or(ids[made.To], made.To)}
		b.edges[id] = e
		b.nodes[e.from].out = slices.Insert(b.nodes[e.from].out, 0, id)
		b.nodes[e.to].in = slices.Insert(b.nodes[e.to].in, 0, id)
		for _, p := range made.Props {
			e.props = append(e.props, bookProp{b.leastProp(), p})
		}
		out.Edges = append(out.Edges, id)
	}
	b.give(x, touch)
	b.commits++
	return out
}

// give: the sets with a value.
func (b *book) give(x api.Delta, touch func(func(*slots.Batch, api.Key) api.Errno, string, api.Prop, int64)) {
	give := func(l []bookProp, s api.PropSet) []bookProp {
		p := bookProp{0, pr(s.Key, s.Val)}
		i, there := placed(l, s.Key)
		if there {
			l[i].Val = s.Val
			return l
		}
		p.id = b.leastProp()
		return slices.Insert(l, i, p)
	}
	for _, s := range x.SetNodes {
		if n := b.nodes[s.Id]; s.Val != null {
			if i, there := placed(n.props, s.Key); there {
				touch(index.Delete, n.label, n.props[i].Prop, s.Id)
			}
			n.props = give(n.props, s)
			touch(index.Insert, n.label, pr(s.Key, s.Val), s.Id)
		}
	}
	for _, s := range x.SetEdges {
		if e := b.edges[s.Id]; s.Val != null {
			e.props = give(e.props, s)
		}
	}
}

func isEmpty(x api.Delta) bool { return fmt.Sprint(x) == fmt.Sprint(api.Delta{}) }

// apply: the answer, but for the lsn.
func (b *book) apply(t *testing.T, x api.Delta) (api.Applied, api.Errno) {
	t.Helper()
	if code := formFault(x); code != api.OK || isEmpty(x) {
		return api.Applied{}, code
	}
	if code := b.fault(x); code != api.OK {
		return api.Applied{}, code
	}
	batch, code := b.tree.Begin()
	wants(t, "the book's Begin", code, api.OK)
	out := b.carry(x, batch)
	_, code = batch.Commit(false, false)
	wants(t, "the book's Commit", code, api.OK)
	_, code = b.tree.Checkpoint(1000)
	wants(t, "the book's Checkpoint", code, api.OK)
	return out, api.OK
}

// graph: as it is told.
func (b *book) graph() (out api.Graph) {
	told := func(l []bookProp) (out []api.Prop) {
		for _, p := range l {
			out = append(out, p.Prop)
		}
		return out
	}
	for _, id := range slices.Sorted(maps.Keys(b.nodes)) {
		out.Nodes = append(out.Nodes, nd(id, b.nodes[id].label, told(b.nodes[id].props)...))
	}
	for _, id := range slices.Sorted(maps.Keys(b.edges)) {
		e := b.edges[id]
		out.Edges = append(out.Edges, ed(id, e.kind, e.from, e.to, told(e.props)...))
	}
	return out
}

// beside: the neighbours of the id in a chain.
func beside(chain []int64, id int64) (ahead, behind int64) {
	i := slices.Index(chain, id)
	if i > 0 {
		ahead = chain[i-1]
	}
	if i < len(chain)-1 {
		behind = chain[i+1]
	}
	return ahead, behind
}

func head(chain []int64) int64 { return append(slices.Clone(chain), 0)[0] }

// holding: all records, in the form of the store's.
func (b *book) holding(t *testing.T) string {
	t.Helper()
	recs := [5]map[int64][]byte{1: {}, 2: {}, 3: {}, 4: {}}
	chain := func(l []bookProp) (ids []int64) {
		for _, p := range l {
			ids = append(ids, p.id)
		}
		for _, p := range l {
			ahead, behind := beside(ids, p.id)
			recs[3][p.id] = propRec(p.Key, ahead, behind, p.Val)
		}
		return ids
	}
	for id, n := range b.nodes {
		recs[1][id] = nodeRec(n.label, head(n.out), head(n.in), head(chain(n.props)))
	}
	for id, e := range b.edges {
		a, c := beside(b.nodes[e.from].out, id)
		f, g := beside(b.nodes[e.to].in, id)
		recs[2][id] = edgeRec(e.kind, [7]int64{e.from, e.to, a, c, f, g, head(chain(e.props))})
	}
	for _, id := range must(b.tree.Used(4)) {
		recs[4][id] = must(b.tree.Get(4, id))
	}
	var out []string
	for kind := 1; kind <= 4; kind++ {
		for _, id := range slices.Sorted(maps.Keys(recs[kind])) {
			out = append(out, fmt.Sprintf("%d/%d: % x\n", kind, id, recs[kind][id]))
		}
	}
	roots := [8]int64{must(b.tree.Root(0)), must(b.tree.Root(1)), must(b.tree.Root(2)), b.commits}
	for i, v := range roots {
		out = append(out, fmt.Sprintf("root %d: %d\n", i, v))
	}
	return fmt.Sprint(out)
}
