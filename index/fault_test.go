package index_test

import (
	"math/rand/v2"
	"testing"

	"trellis/api"
	"trellis/disk"
	"trellis/index"
	"trellis/slots"
)

// unchanged: Insert and Delete of these keys are answered that, and change nothing.
func unchanged(t *testing.T, b *slots.Batch, want api.Errno, xs ...int) {
	t.Helper()
	same := still(t, b)
	for _, x := range xs {
		uninserted(t, b, x, want)
		undeleted(t, b, x, want)
	}
	same()
}

// fills: puts the forest's records, and its three numbers, into a batch that has no record of the kind.
func fills(t *testing.T, b *slots.Batch, f *forest) {
	t.Helper()
	for range b.Sizes().Tree {
		b.Alloc(api.STree)
	}
	for id := range int64(b.Sizes().Tree) {
		if rec := f.records[id+1]; rec != nil {
			wants(t, "Put", b.Put(api.STree, id+1, rec), api.OK)
		} else {
			wants(t, "Free", b.Free(api.STree, id+1), api.OK)
		}
	}
	for i := range 3 {
		wants(t, "SetRoot", b.SetRoot(i, f.roots[i]), api.OK)
	}
}

// laid: a batch with the forest's records.
func laid(t *testing.T, f *forest) *slots.Batch {
	t.Helper()
	b := batch(t, 20)
	fills(t, b, f)
	return b
}

// TestP606Unread, of P607 too: a node on the way that cannot be read, in each way that a batch can have.
func TestP606Unread(t *testing.T) {
	for name, spoil := range unread() {
		f := fours(t)
		f.records[2] = leafOf(keys(10, 20, 30, 40)...)
		if spoil(f, 2) != api.ErrIndexForm || f.records[2] != nil && len(f.records[2]) != 118 {
			continue
		}
		t.Run(name, func(t *testing.T) {
			unchanged(t, laid(t, f), api.ErrIndexForm, 10, 15, 19)
			f := fours(t)
			spoil(f, 6)
			unchanged(t, laid(t, f), api.ErrIndexForm, 1, 2, 3, 10, 99)
		})
	}
}

// TestP606OtherWay, of P607 too: what is not on the way isn't looked at, as long as nothing has to be mended.
func TestP606OtherWay(t *testing.T) {
	f := forestOf(t, "4[30 60](1[10 20 25] 2[30 50 55] 3[60 70 80])")
	f.records[1][0] = 9
	delete(f.records, 3)
	b := laid(t, f)
	inserts(t, b, 40)
	deletes(t, b, 50)
	uninserted(t, b, 10, api.ErrIndexForm)
	undeleted(t, b, 70, api.ErrIndexForm)
}

// TestP606Heights, of P607 too: those that no tree has, and those that are not the tree's.
func TestP606Heights(t *testing.T) {
	for _, height := range append([]int64{1, 3, 4, 8}, badHeights...) {
		f := forestOf(t, two)
		f.roots[2] = height
		unchanged(t, laid(t, f), api.ErrIndexForm, 10, 15, 60, 99)
	}
	for _, root := range []int64{-1, 5, 20, 21, 1 << 40} {
		f := forestOf(t, two)
		f.roots[0] = root
		unchanged(t, laid(t, f), api.ErrIndexForm, 10, 15, 60, 99)
	}
}

// TestP606Empty: an index without a root is empty, whatever its height is.
func TestP606Empty(t *testing.T) {
	for _, height := range badHeights {
		b := batch(t, 5)
		wants(t, "SetRoot", b.SetRoot(api.RootHeight, height), api.OK)
		undeleted(t, b, 1, api.ErrAbsent)
		inserts(t, b, 1)
		grows(t, b, "1[1]")
	}
}

// TestP606Form: ErrIndexForm is told ahead of an index that is full, and of a key that is there elsewhere.
func TestP606Form(t *testing.T) {
	f := forestOf(t, two)
	f.roots[1] = 99
	f.records[3][1] = 0
	b := laid(t, f)
	unchanged(t, b, api.ErrIndexForm, 60, 70, 99)
	uninserted(t, b, 10, api.ErrThere)
	uninserted(t, b, 11, api.ErrIndexFull)
}

// TestP607Neighbour: one that cannot be read is told, and nothing has changed.
func TestP607Neighbour(t *testing.T) {
	for _, c := range []struct {
		gone int64
		x    int
	}{{1, 30}, {3, 30}, {2, 60}, {2, 10}} {
		f := forestOf(t, "4[30 60](1[10 20] 2[30 50] 3[60 70])")
		delete(f.records, c.gone)
		b := laid(t, f)
		same := still(t, b)
		undeleted(t, b, c.x, api.ErrIndexForm)
		same()
	}
	f := forestOf(t, "4[30 60](1[10 20 25] 2[30 50] 3[60 70])")
	delete(f.records, 3) // not needed: the left one lends
	b := laid(t, f)
	deletes(t, b, 50)
	has(t, b, K(25), true)
}

// TestP601Ended: a batch that has ended.
func TestP601Ended(t *testing.T) {
	for _, text := range []string{"", two} {
		for _, end := range []func(b *slots.Batch){func(b *slots.Batch) { b.Drop() }, func(b *slots.Batch) { b.Commit(false, true) }} {
			b := batch(t, 20)
			lays(t, b, text)
			end(b)
			uninserted(t, b, 10, api.ErrClosed)
			undeleted(t, b, 10, api.ErrClosed)
			hasNot(t, b, K(10), api.ErrClosed)
			uncounted(t, b, api.ErrClosed)
			unscanned(t, b, low, high, 0, api.ErrClosed)
			unscanned(t, b, low, high, 9, api.ErrClosed)
			unscanned(t, b, low, high, -1, api.ErrArg)
			walks(t, b, low, high)
		}
	}
}

// TestP601Power: a store whose power is gone.
func TestP601Power(t *testing.T) {
	for _, text := range []string{"", two} {
		d, s, b := made(t, 20)
		lays(t, b, text)
		commits(t, b, true)
		_, code := s.Checkpoint(1024)
		wants(t, "Checkpoint", code, api.OK)
		b = begins(t, s)
		off(t, d)
		s.Sync() // the store is dead from here on
		for _, r := range []api.Getter{b, s} {
			hasNot(t, r, K(10), api.ErrPower)
			uncounted(t, r, api.ErrPower)
			unscanned(t, r, low, high, 0, api.ErrPower)
			unscanned(t, r, low, high, 9, api.ErrPower)
			unscanned(t, r, low, high, -1, api.ErrArg)
			walks(t, r, low, high)
		}
		uninserted(t, b, 10, api.ErrPower)
		undeleted(t, b, 10, api.ErrPower)
	}
}

// spoiled: a disk with the store of that one, where the homes of these records cannot be read.
func spoiled(t *testing.T, d *disk.Disk, ids ...int) *disk.Disk {
	t.Helper()
	image := d.Image()
	for _, id := range ids {
		image[homeOf(id)*128+77] ^= 4
	}
	out, code := disk.Load(image)
	wants(t, "Load", code, api.OK)
	return out
}

// settled: a disk with a store that has that tree in the records' homes.
func settled(t *testing.T, text string) *disk.Disk {
	t.Helper()
	d, s, b := made(t, 20)
	lays(t, b, text)
	commits(t, b, true)
	_, code := s.Checkpoint(1024)
	wants(t, "Checkpoint", code, api.OK)
	return d
}

const wide = "6[20 30 40 50](1[10 11 12 13] 2[20 21] 3[30 31] 4[40 41] 5[50 51 52])"

// TestP601Page: a page that cannot be read: its error is passed on; a walk gives the keys ahead of it.
func TestP601Page(t *testing.T) {
	s := opens(t, spoiled(t, settled(t, wide), 4))
	b := begins(t, s)
	for _, r := range []api.Getter{s, b} {
		has(t, r, K(50), true)
		hasNot(t, r, K(40), api.ErrPage)
		hasNot(t, r, K(49), api.ErrPage)
		scans(t, r, K(20), K(40), 9, keys(20, 21, 30, 31)...)
		scans(t, r, K(20), K(41), 4, keys(20, 21, 30, 31)...)
		unscanned(t, r, K(20), K(41), 5, api.ErrPage)
		walks(t, r, K(20), high, keys(20, 21, 30, 31)...)
	}
	inserts(t, b, 25)
	deletes(t, b, 52)
	commits(t, b, true)
	b = begins(t, s)
	uninserted(t, b, 44, api.ErrPage)
	undeleted(t, b, 40, api.ErrPage)
	undeleted(t, b, 51, api.ErrPage) // its neighbour must be looked at
	if lsn, code := b.Commit(false, true); lsn != 0 || code != api.OK {
		t.Errorf("Commit = %d, %d: something was changed", lsn, code)
	}
}

// TestP606Page: where a new record cannot be had, since a page cannot be read, those that were taken are given back.
func TestP606Page(t *testing.T) {
	for bad := 7; bad <= 9; bad++ {
		b := begins(t, opens(t, spoiled(t, settled(t, wide), bad)))
		uninserted(t, b, 14, api.ErrPage)
		for id := int64(7); id <= 9; id++ {
			if got, code := b.Get(api.STree, id); code == api.OK {
				t.Errorf("record %d is % x: it was not given back", id, got)
			}
		}
		if lsn, code := b.Commit(false, true); lsn != 0 || code != api.OK {
			t.Errorf("Commit = %d, %d: something was changed", lsn, code)
		}
	}
	b := begins(t, opens(t, spoiled(t, settled(t, wide), 10)))
	inserts(t, b, 14)
	has(t, b, K(14), true)
}

// TestP608: over any records that can stand in a store Insert and Delete end; what they answer with an error of the way changes nothing.
func TestP608(t *testing.T) {
	r := rand.New(rand.NewPCG(6, 8))
	_, s, b := made(t, 12)
	for range 800 {
		wants(t, "Drop", b.Drop(), api.OK)
		b = begins(t, s)
		fills(t, b, wild(r))
		for range 6 {
			wildly(t, r, b)
		}
	}
}

// wildly: one call over a tree of any sort.
func wildly(t *testing.T, r *rand.Rand, b *slots.Batch) {
	t.Helper()
	k := K(r.IntN(14))
	before := all(t, b)
	there, fault := index.Has(b, k)
	var code api.Errno
	name := "Insert"
	if r.IntN(2) == 0 {
		code = index.Insert(b, k)
		if fault == api.OK && (code == api.ErrThere) != there {
			t.Errorf("Insert(% x) = %d, but Has says %v", k, code, there)
		}
	} else {
		name = "Delete"
		code = index.Delete(b, k)
		if fault == api.OK && (code == api.ErrAbsent) == there {
			t.Errorf("Delete(% x) = %d, but Has says %v", k, code, there)
		}
	}
	if fault != api.OK && code != fault {
		t.Errorf("%s(% x) = %d, want %d", name, k, code, fault)
	}
	if now := all(t, b); fault != api.OK && now != before {
		t.Errorf("%s(% x) = %d, and %s became %s", name, k, code, before, now)
	}
}

// TestP608Rings: nodes that are their own kids, or stand in several places, in trees of any height.
func TestP608Rings(t *testing.T) {
	leaves := [][]byte{leafOf(keys(10)...), leafOf(keys(10, 20)...), leafOf(keys(10, 20, 30, 40)...)}
	inners := [][]byte{
		innerOf(keys(15), 1, 1), innerOf(keys(15), 2, 2), innerOf(keys(15), 1, 2), innerOf(keys(5, 15), 2, 1, 2),
		innerOf(keys(1, 5, 15, 25), 2, 2, 1, 2, 2), innerOf(keys(1, 5, 15, 25), 2, 2, 2, 2, 2), innerOf(keys(15), 0, 1<<32-1),
	}
	_, s, b := made(t, 20)
	for height := int64(1); height <= 9; height++ {
		for i := range len(leaves) * len(inners) {
			f := forestOf(t, "")
			f.roots = [8]int64{max(2, height), 3, height}
			f.records[1], f.records[2] = leaves[i%len(leaves)], inners[i/len(leaves)]
			for id := int64(3); id <= 9; id++ {
				f.records[id] = innerOf(keys(15), id-1, id-1)
			}
			for _, x := range []int{0, 1, 5, 10, 15, 17, 20, 30, 40, 45} {
				wants(t, "Drop", b.Drop(), api.OK)
				b = begins(t, s)
				fills(t, b, f)
				index.Delete(b, K(x))
				index.Insert(b, K(x))
				index.Delete(b, K(45-x))
			}
		}
	}
}

// TestP608Twice: a record that would have to be given back twice.
func TestP608Twice(t *testing.T) {
	f := forestOf(t, "1[50](2[10 20](4[2 4](5[0 1] 6[2 3] 7[4 5]) 3[60 70](5[0 1] 6[2 3] 7[4 5]) 3[60 70](5[0 1] 6[2 3] 7[4 5])) 3[60 70](8[1 2](5[0 1] 5[0 1] 5[0 1]) 8[1 2](5[0 1] 5[0 1] 5[0 1]) 8[1 2](5[0 1] 5[0 1] 5[0 1])))")
	f.records[3] = innerOf(keys(60, 70), 8, 8, 8)
	b := laid(t, f)
	index.Delete(b, K(1))
	index.Insert(b, K(1))
}
