package index_test

import (
	"testing"

	"trellis/api"
	"trellis/index"
)

// change: what an Insert, or a Delete, of a key makes of a tree.
type change struct {
	before string
	x      int
	after  string
}

func insertions(t *testing.T, list ...change) {
	t.Helper()
	for _, c := range list {
		b := batch(t, 60)
		lays(t, b, c.before)
		if code := index.Insert(b, K(c.x)); code != api.OK {
			t.Errorf("Insert(%d) into %s = %d", c.x, c.before, code)
		}
		grows(t, b, c.after)
		sound(t, b)
		has(t, b, K(c.x), true)
	}
}

func deletions(t *testing.T, list ...change) {
	t.Helper()
	for _, c := range list {
		b := batch(t, 60)
		lays(t, b, c.before)
		if code := index.Delete(b, K(c.x)); code != api.OK {
			t.Errorf("Delete(%d) from %s = %d", c.x, c.before, code)
		}
		grows(t, b, c.after)
		sound(t, b)
		has(t, b, K(c.x), false)
	}
}

// TestP606Leaf: the key comes to its place.
func TestP606Leaf(t *testing.T) {
	insertions(t,
		change{"", 7, "1[7]"},
		change{"1[7]", 3, "1[3 7]"},
		change{"1[7]", 9, "1[7 9]"},
		change{"1[3 9]", 7, "1[3 7 9]"},
		change{"5[10 20 30]", 5, "5[5 10 20 30]"},
		change{"5[10 20 30]", 15, "5[10 15 20 30]"},
		change{"5[10 20 30]", 25, "5[10 20 25 30]"},
		change{"5[10 20 30]", 35, "5[10 20 30 35]"},
		change{"3[30](1[10 20] 2[40 50])", 29, "3[30](1[10 20 29] 2[40 50])"},
		change{"3[30](1[10 20] 2[40 50])", 30, "3[30](1[10 20] 2[30 40 50])"}, // as the inner node's key: to the right of it
		change{"3[30](1[10 20] 2[40 50])", 31, "3[30](1[10 20] 2[31 40 50])"},
		change{"3[30](1[10 20] 2[40 50])", 0, "3[30](1[0 10 20] 2[40 50])"},
		change{"4[30 60](1[10 20] 2[40 50] 3[60 70])", 59, "4[30 60](1[10 20] 2[40 50 59] 3[60 70])"},
		change{"4[30 60](1[10 20] 2[40 50] 3[60 70])", 99, "4[30 60](1[10 20] 2[40 50] 3[60 70 99])"},
	)
}

// TestP606Split: of a leaf, at each place; the root is a leaf, or the parent has room.
func TestP606Split(t *testing.T) {
	insertions(t,
		change{"1[10 20 30 40]", 5, "3[30](1[5 10 20] 2[30 40])"},
		change{"1[10 20 30 40]", 15, "3[30](1[10 15 20] 2[30 40])"},
		change{"1[10 20 30 40]", 25, "3[30](1[10 20 25] 2[30 40])"},
		change{"1[10 20 30 40]", 35, "3[35](1[10 20 30] 2[35 40])"},
		change{"1[10 20 30 40]", 45, "3[40](1[10 20 30] 2[40 45])"},
		change{"9[50](4[10 20 30 40] 7[50 60])", 5, "9[30 50](4[5 10 20] 1[30 40] 7[50 60])"},
		change{"9[50](4[10 20] 7[50 60 70 80])", 75, "9[50 75](4[10 20] 7[50 60 70] 1[75 80])"},
		change{"9[50 90](4[10 20] 7[50 60 70 80] 8[90 99])", 65, "9[50 70 90](4[10 20] 7[50 60 65] 1[70 80] 8[90 99])"},
		change{"9[20 50 90](1[10 11] 2[20 21] 3[50 60 70 80] 4[90 99])", 85, "9[20 50 80 90](1[10 11] 2[20 21] 3[50 60 70] 5[80 85] 4[90 99])"},
	)
}

// TestP606Inner: an inner root is split, the new kid at each place; the new records are the leaf's, the inner node's, the root's, the least free ones.
func TestP606Inner(t *testing.T) {
	insertions(t,
		change{"6[20 30 40 50](1[10 11 12 13] 2[20 21] 3[30 31] 4[40 41] 5[50 51])", 14, "9[30](6[13 20](1[10 11 12] 7[13 14] 2[20 21]) 8[40 50](3[30 31] 4[40 41] 5[50 51]))"},
		change{"6[20 30 40 50](1[10 11] 2[20 21 22 23] 3[30 31] 4[40 41] 5[50 51])", 24, "9[30](6[20 23](1[10 11] 2[20 21 22] 7[23 24]) 8[40 50](3[30 31] 4[40 41] 5[50 51]))"},
		change{"6[20 30 40 50](1[10 11] 2[20 21] 3[30 31 32 33] 4[40 41] 5[50 51])", 34, "9[33](6[20 30](1[10 11] 2[20 21] 3[30 31 32]) 8[40 50](7[33 34] 4[40 41] 5[50 51]))"},
		change{"6[20 30 40 50](1[10 11] 2[20 21] 3[30 31] 4[40 41 42 43] 5[50 51])", 44, "9[40](6[20 30](1[10 11] 2[20 21] 3[30 31]) 8[43 50](4[40 41 42] 7[43 44] 5[50 51]))"},
		change{"6[20 30 40 50](1[10 11] 2[20 21] 3[30 31] 4[40 41] 5[50 51 52 53])", 54, "9[40](6[20 30](1[10 11] 2[20 21] 3[30 31]) 8[50 53](4[40 41] 5[50 51 52] 7[53 54]))"},
		change{"29[20 30 40 50](1[10 11] 3[20 21] 4[30 31] 6[40 41] 8[50 51 52 53])", 54, "7[40](29[20 30](1[10 11] 3[20 21] 4[30 31]) 5[50 53](6[40 41] 8[50 51 52] 2[53 54]))"},
	)
}

// TestP606Upward: splits that end at an inner node, or go on to the root.
func TestP606Upward(t *testing.T) {
	left := "12[10 20](1[1 2] 2[10 11] 3[20 21])"
	insertions(t,
		change{"20[100](" + left + " 13[120 140 160 180](4[100 101] 5[120 121] 6[140 141] 7[160 161] 8[180 181 182 183]))", 184,
			"20[100 160](" + left + " 13[120 140](4[100 101] 5[120 121] 6[140 141]) 10[180 183](7[160 161] 8[180 181 182] 9[183 184]))"},
		change{"20[100](" + left + " 13[120 140 160](4[100 101] 5[120 121] 6[140 141] 7[160 161 162 163]))", 164,
			"20[100](" + left + " 13[120 140 160 163](4[100 101] 5[120 121] 6[140 141] 7[160 161 162] 8[163 164]))"},
		change{"28[100 200 300 400](" + left + " 14[120 140 160 180](4[100 101 102 103] 5[120 121] 6[140 141] 7[160 161] 8[180 181]) 15[210 220](9[200 201] 10[210 211] 11[220 221]) 16[310 320](17[300 301] 18[310 311] 19[320 321]) 21[410 420](22[400 401] 23[410 411] 24[420 421]))", 104,
			"26[200](28[100 140](" + left + " 14[103 120](4[100 101 102] 13[103 104] 5[120 121]) 20[160 180](6[140 141] 7[160 161] 8[180 181])) 25[300 400](15[210 220](9[200 201] 10[210 211] 11[220 221]) 16[310 320](17[300 301] 18[310 311] 19[320 321]) 21[410 420](22[400 401] 23[410 411] 24[420 421])))"},
	)
}

// TestP606There: for each key that is there; ahead of the index that is full.
func TestP606There(t *testing.T) {
	for _, size := range []int{7, 30} {
		b := batch(t, size)
		lays(t, b, "4[30 60](1[10 20] 2[30 50] 3[60 70 80])")
		for _, x := range []int{10, 20, 30, 50, 60, 70, 80} {
			same := still(t, b)
			uninserted(t, b, x, api.ErrThere)
			same()
		}
	}
}

// TestP606Full: just as many keys as the store has slots of the kind.
func TestP606Full(t *testing.T) {
	for _, size := range []int{1, 2, 3, 4, 5, 9, 40} {
		b := batch(t, size)
		for i := range size {
			inserts(t, b, 7*i%size*2)
		}
		same := still(t, b)
		for i := range size + 1 {
			uninserted(t, b, 2*i+1, api.ErrIndexFull)
		}
		same()
		deletes(t, b, 0)
		inserts(t, b, 3)
		uninserted(t, b, 0, api.ErrIndexFull)
		sound(t, b)
	}
}

// TestP606FullByTheNumber: it is RootKeys that is held against the room, of an empty index too.
func TestP606FullByTheNumber(t *testing.T) {
	for _, count := range []int64{4, 5, 1 << 62} {
		for _, text := range []string{"", "1[10 20]"} {
			b := batch(t, 4)
			lays(t, b, text)
			wants(t, "SetRoot", b.SetRoot(api.RootKeys, count), api.OK)
			same := still(t, b)
			uninserted(t, b, 5, api.ErrIndexFull)
			same()
		}
	}
}

// TestP606Lack: where somebody else has the records of the kind, those that were taken are given back, and nothing has changed.
func TestP606Lack(t *testing.T) {
	for _, c := range []struct {
		before string
		x      int
		wanted int
	}{
		{"", 1, 1},
		{"2[10 20 30 40]", 1, 2},
		{"2[10 20](4[1 2 3 4] 5[10 11] 6[20 21])", 5, 1},
		{"2[20 30 40 50](1[10 11 12 13] 5[20 21] 3[30 31] 4[40 41] 6[50 51])", 14, 3},
	} {
		for free := range c.wanted + 1 {
			b := batch(t, 20)
			lays(t, b, c.before)
			for range 20 {
				b.Alloc(api.STree)
			}
			for i := range free { // scattered
				wants(t, "Free", b.Free(api.STree, int64(9+4*i)), api.OK)
			}
			same := still(t, b)
			if free < c.wanted {
				uninserted(t, b, c.x, api.ErrSlotFull)
				same()
			} else {
				inserts(t, b, c.x)
			}
		}
	}
}

// TestP607Leaf: the key is taken out; a key of an inner node stays.
func TestP607Leaf(t *testing.T) {
	deletions(t,
		change{"1[3 5 7 9]", 3, "1[5 7 9]"},
		change{"1[3 5 7 9]", 5, "1[3 7 9]"},
		change{"1[3 5 7 9]", 9, "1[3 5 7]"},
		change{"6[3 5]", 5, "6[3]"},
		change{"6[5]", 5, ""},
		change{"3[4](1[1 2 3] 2[4 5])", 1, "3[4](1[2 3] 2[4 5])"},
		change{"3[4](1[1 2] 2[4 5 6])", 4, "3[4](1[1 2] 2[5 6])"},
		change{"3[4](1[1 2] 2[4 5 6 7])", 7, "3[4](1[1 2] 2[4 5 6])"},
	)
}

// TestP607MendLeaf: by a neighbour that lends, the left one first; else by one that it goes together with, the left one first.
func TestP607MendLeaf(t *testing.T) {
	deletions(t,
		change{"9[10 20](1[1 2 3] 2[10 11] 3[20 21 22 23])", 10, "9[3 20](1[1 2] 2[3 11] 3[20 21 22 23])"},
		change{"9[10 20](1[1 2 3 4] 2[10 11] 3[20 21])", 11, "9[4 20](1[1 2 3] 2[4 10] 3[20 21])"},
		change{"9[10 20](1[1 2] 2[10 11 12] 3[20 21])", 21, "9[10 12](1[1 2] 2[10 11] 3[12 20])"},

		change{"9[10 20](1[1 2] 2[10 11] 3[20 21 22])", 11, "9[10 21](1[1 2] 2[10 20] 3[21 22])"},
		change{"9[10 20](1[1 2] 2[10 11] 3[20 21 22 23])", 10, "9[10 21](1[1 2] 2[11 20] 3[21 22 23])"},
		change{"9[10 20](1[1 2] 2[10 11 12] 3[20 21])", 1, "9[11 20](1[2 10] 2[11 12] 3[20 21])"},

		change{"9[10 20](1[1 2] 2[10 11] 3[20 21])", 11, "9[20](1[1 2 10] 3[20 21])"},
		change{"9[10 20](1[1 2] 2[10 11] 3[20 21])", 20, "9[10](1[1 2] 2[10 11 21])"},
		change{"9[10 20](1[1 2] 2[10 11] 3[20 21 22 23])", 1, "9[20](1[2 10 11] 3[20 21 22 23])"},
		change{"9[10 20](1[1 2 3 4] 2[10 11] 3[20 21])", 21, "9[10](1[1 2 3 4] 2[10 11 20])"},

		change{"9[10 20](1[1 2] 2[10 11] 3[20 21])", 2, "9[20](1[1 10 11] 3[20 21])"},

		change{"9[10](7[1 2] 2[10 11])", 2, "7[1 10 11]"},
		change{"9[10](7[1 2] 2[10 11])", 10, "7[1 2 11]"},
	)
}

// TestP607MendInner: the same of inner nodes, with the parent's key between.
func TestP607MendInner(t *testing.T) {
	const (
		a2 = "10[20 40](1[1 2] 2[20 21] 3[40 41])"
		a3 = "10[20 40 60](1[1 2] 2[20 21] 3[40 41] 7[60 61])"
		b2 = "11[120 140](4[100 101] 5[120 121] 6[140 141])"
		b3 = "11[120 140 160](4[100 101] 5[120 121] 6[140 141] 15[160 161])"
		c2 = "12[220 240](8[200 201] 9[220 221] 13[240 241])"
		c3 = "12[220 240 260](8[200 201] 9[220 221] 13[240 241] 14[260 261])"
	)
	three := func(root, a, b, c string) string { return root + "(" + a + " " + b + " " + c + ")" }
	deletions(t,
		// the left one lends, whatever the right one has
		change{three("20[100 200]", a3, b2, c3), 121, three("20[60 200]", a2, "11[100 140](7[60 61] 4[100 101 120] 6[140 141])", c3)},
		change{three("20[100 200]", a2, b3, c2), 200, three("20[100 160]", a2, b2, "12[200 240](15[160 161] 8[201 220 221] 13[240 241])")},
		// the right one lends
		change{three("20[100 200]", a2, b2, c3), 121, three("20[100 220]", a2, "11[140 200](4[100 101 120] 6[140 141] 8[200 201])", "12[240 260](9[220 221] 13[240 241] 14[260 261])")},
		change{three("20[100 200]", a2, b3, c2), 1, three("20[120 200]", "10[40 100](1[2 20 21] 3[40 41] 4[100 101])", "11[140 160](5[120 121] 6[140 141] 15[160 161])", c2)},
		// together with the left one
		change{three("20[100 200]", a2, b2, c2), 121, "20[200](10[20 40 100 140](1[1 2] 2[20 21] 3[40 41] 4[100 101 120] 6[140 141]) " + c2 + ")"},
		change{three("20[100 200]", a3, b2, c2), 241, "20[100](" + a3 + " 11[120 140 200 220](4[100 101] 5[120 121] 6[140 141] 8[200 201] 9[220 221 240]))"},
		// together with the right one
		change{three("20[100 200]", a2, b2, c3), 2, "20[200](10[40 100 120 140](1[1 20 21] 3[40 41] 4[100 101] 5[120 121] 6[140 141]) " + c3 + ")"},
		// the root has no key then
		change{"20[100](" + a2 + " " + b2 + ")", 2, "10[40 100 120 140](1[1 20 21] 3[40 41] 4[100 101] 5[120 121] 6[140 141])"},
		change{"20[100](" + a2 + " " + b2 + ")", 101, "10[20 40 100 140](1[1 2] 2[20 21] 3[40 41] 4[100 120 121] 6[140 141])"},
		// a leaf alone
		change{three("20[100 200]", a2, b3, c2), 140, three("20[100 200]", a2, "11[120 160](4[100 101] 5[120 121 141] 15[160 161])", c2)},
	)
}

// TestP607Absent: of each key that is not there.
func TestP607Absent(t *testing.T) {
	for _, text := range []string{"", "1[5]", "4[30 60](1[10 20] 2[31 50] 3[60 70 80])"} {
		b := batch(t, 30)
		lays(t, b, text)
		same := still(t, b)
		for _, x := range []int{0, 4, 6, 9, 11, 21, 30, 49, 51, 59, 61, 81, 1 << 20} {
			undeleted(t, b, x, api.ErrAbsent)
		}
		same()
	}
}
