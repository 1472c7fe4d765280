package index

import (
	"slices"

	"trellis/api"
)

// pair: two neighbours, and the place of the key between them in their parent.
type pair struct {
	parent      *node
	at          int
	left, right *node
}

// lendRight: what stands last in the left one comes over to the right one.
func (p pair) lendRight() {
	last := len(p.left.keys) - 1
	lent := p.left.keys[last]
	p.left.keys = p.left.keys[:last]
	if p.left.leaf() {
		p.right.keys = slices.Insert(p.right.keys, 0, lent)
	} else {
		p.right.keys = slices.Insert(p.right.keys, 0, p.parent.keys[p.at])
		p.right.kids = slices.Insert(p.right.kids, 0, p.left.kids[last+1])
		p.left.kids = p.left.kids[:last+1]
	}
	p.parent.keys[p.at] = lent
}

// lendLeft: what stands first in the right one comes over to the left one.
func (p pair) lendLeft() {
	lent := p.right.keys[0]
	p.right.keys = p.right.keys[1:]
	if p.right.leaf() {
		p.left.keys = append(p.left.keys, lent)
		p.parent.keys[p.at] = p.right.keys[0]
		return
	}
	p.left.keys = append(p.left.keys, p.parent.keys[p.at])
	p.left.kids = append(p.left.kids, p.right.kids[0])
	p.right.kids = p.right.kids[1:]
	p.parent.keys[p.at] = lent
}

// join: all that the right one has comes over to the left one.
func (p pair) join() {
	if !p.left.leaf() {
		p.left.keys = append(p.left.keys, p.parent.keys[p.at])
	}
	p.left.keys = append(p.left.keys, p.right.keys...)
	p.left.kids = append(p.left.kids, p.right.kids...)
	p.parent.keys = slices.Delete(p.parent.keys, p.at, p.at+1)
	p.parent.kids = slices.Delete(p.parent.kids, p.at+1, p.at+2)
}

// remove: the key that was found is taken out, and whatever has too few keys for that is mended, from the leaf upwards.
func (e *edit) remove() api.Errno {
	e.count--
	leaf := e.steps[len(e.steps)-1]
	leaf.keys = slices.Delete(leaf.keys, leaf.at, leaf.at+1)
	for i := len(e.steps) - 1; i > 0; i-- {
		if len(e.steps[i].keys) >= leastKeys {
			e.changed = append(e.changed, e.steps[i].node)
			return api.OK
		}
		if code := e.mend(i); code != api.OK {
			return code
		}
	}
	e.settleRoot()
	return api.OK
}

// mend: the way's node i gets keys from a neighbour that can lend, or becomes one with a neighbour.
func (e *edit) mend(i int) api.Errno {
	parent, n := e.steps[i-1], e.steps[i].node
	left, code := e.neighbour(i, -1)
	if code != api.OK {
		return code
	}
	withLeft := pair{parent: parent.node, at: parent.at - 1, left: left, right: n}
	if left != nil && len(left.keys) > leastKeys {
		withLeft.lendRight()
		e.changed = append(e.changed, left, n)
		return api.OK
	}
	right, code := e.neighbour(i, 1)
	if code != api.OK {
		return code
	}
	withRight := pair{parent: parent.node, at: parent.at, left: n, right: right}
	if right != nil && len(right.keys) > leastKeys {
		withRight.lendLeft()
		e.changed = append(e.changed, n, right)
		return api.OK
	}
	joined := withLeft
	if left == nil {
		joined = withRight
	}
	joined.join()
	e.changed = append(e.changed, joined.left)
	e.gone = append(e.gone, joined.right.id)
	return api.OK
}

// neighbour: the kid that stands so far beside the way's node i, under the same parent; nil, if there is none.
func (e *edit) neighbour(i, by int) (*node, api.Errno) {
	parent := e.steps[i-1]
	at := parent.at + by
	if at < 0 || at >= len(parent.kids) {
		return nil, api.OK
	}
	return e.node(parent.kids[at], i+1)
}

// settleRoot: a root without keys is given back; its one kid, if it has one, is the root.
func (e *edit) settleRoot() {
	root := e.steps[0].node
	if len(root.keys) > 0 {
		e.changed = append(e.changed, root)
		return
	}
	e.gone = append(e.gone, root.id)
	e.height--
	e.root = 0
	if !root.leaf() {
		e.root = root.kids[0]
	}
}
