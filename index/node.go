package index

import (
	"bytes"
	"slices"

	"trellis/api"
)

// A node's record: what it is, how many keys it has, the keys, the kids' ids.
const (
	leafMark  = 1
	innerMark = 2
	keysAt    = 2
	keyBytes  = len(api.Key{})
	kidsAt    = keysAt + keyBytes*api.NodeKeys
	kidBytes  = 4
)

// node: of the tree. What is in it is changed here first, and laid into its record when all of a call is thought out: till then it may have a key too many, or too few.
type node struct {
	id   int64
	keys []api.Key
	kids []int64 // one more than keys; none of a leaf
}

// below: the order of keys.
func below(a, b api.Key) bool {
	return bytes.Compare(a[:], b[:]) < 0
}

// rising: is each key above the one before it?
func rising(keys []api.Key) bool {
	for i, k := range keys {
		if i > 0 && !below(keys[i-1], k) {
			return false
		}
	}
	return true
}

// lay: the number as bytes, highest first, as many as there is room for.
func lay(b []byte, v int64) {
	for i := range b {
		b[len(b)-1-i] = byte(v >> (8 * i))
	}
}

// number: what lay laid.
func number(b []byte) int64 {
	v := int64(0)
	for _, x := range b {
		v = v<<8 | int64(x)
	}
	return v
}

// keyIn, kidIn: the bytes of a record's key, and of its kid, of that number.
func keyIn(rec []byte, i int) []byte { return rec[keysAt+keyBytes*i:][:keyBytes] }
func kidIn(rec []byte, i int) []byte { return rec[kidsAt+kidBytes*i:][:kidBytes] }

// nodeOf: the node whose record that is; false, if it isn't sound as a leaf, or as an inner node.
func nodeOf(id int64, rec []byte, leaf bool) (*node, bool) {
	mark := byte(innerMark)
	if leaf {
		mark = leafMark
	}
	if len(rec) != api.SizeTree || rec[0] != mark || rec[1] < 1 || rec[1] > api.NodeKeys {
		return nil, false
	}
	n, count := &node{id: id}, int(rec[1])
	for i := range count {
		n.keys = append(n.keys, api.Key(keyIn(rec, i)))
	}
	if !leaf {
		for i := range count + 1 {
			n.kids = append(n.kids, number(kidIn(rec, i)))
		}
	}
	return n, rising(n.keys)
}

// record: the node's.
func (n *node) record() []byte {
	rec := make([]byte, api.SizeTree)
	rec[0], rec[1] = innerMark, byte(len(n.keys))
	if n.leaf() {
		rec[0] = leafMark
	}
	for i, k := range n.keys {
		copy(keyIn(rec, i), k[:])
	}
	for i, kid := range n.kids {
		lay(kidIn(rec, i), kid)
	}
	return rec
}

func (n *node) leaf() bool {
	return len(n.kids) == 0
}

// place: how many of its keys are below k; and is the next one k?
func (n *node) place(k api.Key) (int, bool) {
	i := 0
	for i < len(n.keys) && below(n.keys[i], k) {
		i++
	}
	return i, i < len(n.keys) && n.keys[i] == k
}

// kidFor: which of its kids is the one for k.
func (n *node) kidFor(k api.Key) int {
	i, found := n.place(k)
	if found {
		return i + 1
	}
	return i
}

// visited: does a walk from lo to hi come to its kid i?
func (n *node) visited(i int, lo, hi api.Key) bool {
	if i > 0 && !below(n.keys[i-1], hi) {
		return false
	}
	return i == len(n.keys) || below(lo, n.keys[i])
}

// add: the key has that place from now on; of an inner node the kid behind it, too.
func (n *node) add(at int, k api.Key, kid int64) {
	n.keys = slices.Insert(n.keys, at, k)
	if !n.leaf() {
		n.kids = slices.Insert(n.kids, at+1, kid)
	}
}

// split: what goes over to a new node to its right, and the key that stands between the two in their parent.
func (n *node) split(id int64) (*node, api.Key) {
	const half = api.NodeKeys/2 + 1
	right := &node{id: id, keys: slices.Clone(n.keys[half:])}
	if n.leaf() {
		n.keys = n.keys[:half]
		return right, right.keys[0]
	}
	between := n.keys[half-1]
	right.kids = slices.Clone(n.kids[half:])
	n.keys, n.kids = n.keys[:half-1], n.kids[:half]
	return right, between
}
