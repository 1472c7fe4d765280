package index

import (
	"iter"
	"slices"

	"trellis/api"
)

// maxHeight: no tree that is valid is higher.
const maxHeight = 8

// tree: what the root page says of the index. An empty one has neither root nor height.
type tree struct {
	from   api.Getter
	root   int64
	height int
}

// rootNumber: one of the numbers of the root page.
func rootNumber(r api.Getter, i int) (int, api.Errno) {
	if r == nil {
		return 0, api.ErrArg
	}
	v, code := r.Root(i)
	if code != api.OK {
		return 0, code
	}
	return int(v), api.OK
}

// treeOf: the tree that is read through the Getter.
func treeOf(r api.Getter) (tree, api.Errno) {
	root, code := rootNumber(r, api.RootTree)
	if code != api.OK {
		return tree{}, code
	}
	height, code := rootNumber(r, api.RootHeight)
	if code != api.OK {
		return tree{}, code
	}
	if root == 0 {
		return tree{from: r}, api.OK
	}
	if height < 1 || height > maxHeight {
		return tree{}, api.ErrIndexForm
	}
	return tree{from: r, root: int64(root), height: height}, api.OK
}

// node: the one of that id, which stands at that depth.
func (t tree) node(id int64, depth int) (*node, api.Errno) {
	rec, code := t.from.Get(api.STree, id)
	if code == api.ErrSlotId {
		return nil, api.ErrIndexForm
	}
	if code != api.OK {
		return nil, code
	}
	n, sound := nodeOf(id, rec, depth == t.height)
	if !sound {
		return nil, api.ErrIndexForm
	}
	return n, api.OK
}

// step: a node on the way to a key, and where the way goes on in it: the kid for the key, or the key's place in a leaf.
type step struct {
	*node
	at int
}

// way: to a key, from the root down to a leaf; without a step in an empty index.
type way struct {
	steps []step
	found bool // the leaf has the key
}

// wayTo: the way to the key.
func (t tree) wayTo(k api.Key) (way, api.Errno) {
	var w way
	id := t.root
	for i := range t.height {
		n, code := t.node(id, i+1)
		if code != api.OK {
			return way{}, code
		}
		s := step{node: n}
		if n.leaf() {
			s.at, w.found = n.place(k)
		} else {
			s.at = n.kidFor(k)
			id = n.kids[s.at]
		}
		w.steps = append(w.steps, s)
	}
	return w, api.OK
}

// visit: a node that a walk has yet to come to.
type visit struct {
	id    int64
	depth int
}

// walk: the keys of the walk from lo to hi; behind them, if it comes to a node that cannot be read, its error alone.
func (t tree) walk(lo, hi api.Key) iter.Seq2[api.Key, api.Errno] {
	return func(yield func(api.Key, api.Errno) bool) {
		if t.height == 0 || !below(lo, hi) {
			return
		}
		ahead := []visit{{id: t.root, depth: 1}} // the next one stands last
	walking:
		for len(ahead) > 0 {
			v := ahead[len(ahead)-1]
			ahead = ahead[:len(ahead)-1]
			n, code := t.node(v.id, v.depth)
			if code != api.OK {
				yield(api.Key{}, code)
				break walking
			}
			for i, kid := range slices.Backward(n.kids) {
				if n.visited(i, lo, hi) {
					ahead = append(ahead, visit{id: kid, depth: v.depth + 1})
				}
			}
			if !n.leaf() {
				continue walking
			}
			for _, k := range n.keys {
				if !below(k, lo) && below(k, hi) && !yield(k, api.OK) {
					break walking
				}
			}
		}
	}
}
