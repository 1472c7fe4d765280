package index

import (
	"cmp"
	"slices"

	"trellis/api"
	"trellis/slots"
)

// leastKeys: each node but the root has as many, or is mended; one that has more can lend.
const leastKeys = api.NodeKeys / 2

// edit: a change of the index, thought out whole ahead of the first write: so a call that finds an error on its way has changed nothing.
type edit struct {
	tree
	way
	count   int     // keys of the index
	changed []*node // their records are to be laid anew
	gone    []int64 // the records to give back
}

// editAt: one at the place of that key; nothing is changed yet.
func editAt(b *slots.Batch, k api.Key) (*edit, api.Errno) {
	t, code := treeOf(b)
	if code != api.OK {
		return nil, code
	}
	w, code := t.wayTo(k)
	if code != api.OK {
		return nil, code
	}
	count, code := Count(b)
	return &edit{tree: t, way: w, count: count}, code
}

// carry: the changes are made. Over a valid tree none of them is refused: all that they touch was read or taken.
func (e *edit) carry(b *slots.Batch) api.Errno {
	code := api.OK
	for _, n := range e.changed {
		code = cmp.Or(code, b.Put(api.STree, n.id, n.record()))
	}
	for _, id := range e.gone {
		code = cmp.Or(code, b.Free(api.STree, id))
	}
	for i, v := range [...]int64{api.RootTree: e.root, api.RootKeys: int64(e.count), api.RootHeight: int64(e.height)} {
		code = cmp.Or(code, b.SetRoot(i, v))
	}
	return code
}

// room: how many keys an index of a store of these sizes can have.
func room(z api.Sizes) int {
	return z.Tree * slots.Per(api.STree)
}

// take: so many new records, or none.
func take(b *slots.Batch, n int) ([]int64, api.Errno) {
	var out []int64
	for range n {
		id, code := b.Alloc(api.STree)
		if code != api.OK {
			for _, taken := range out {
				b.Free(api.STree, taken)
			}
			return nil, code
		}
		out = append(out, id)
	}
	return out, api.OK
}

// lacking: how many new records an insertion needs: one for each node that will be split, and one for a new root.
func (e *edit) lacking() int {
	n := 0
	for _, s := range slices.Backward(e.steps) {
		if len(s.keys) < api.NodeKeys {
			return n
		}
		n++
	}
	return n + 1
}

// insert: the key comes to its place; the new records are those that it lacks, in the order in which they are needed.
func (e *edit) insert(k api.Key, fresh []int64) {
	e.count++
	kid := int64(0) // the new node behind the key; none behind that of a leaf
	for _, s := range slices.Backward(e.steps) {
		s.add(s.at, k, kid)
		e.changed = append(e.changed, s.node)
		if len(s.keys) <= api.NodeKeys {
			return
		}
		right, between := s.split(fresh[0])
		e.changed = append(e.changed, right)
		k, kid, fresh = between, right.id, fresh[1:]
	}
	root := &node{id: fresh[0], keys: []api.Key{k}}
	if e.height > 0 {
		root.kids = []int64{e.root, kid}
	}
	e.changed = append(e.changed, root)
	e.root = root.id
	e.height++
}
