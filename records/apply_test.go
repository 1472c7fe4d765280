package records_test

import (
	"testing"

	"trellis/api"
	"trellis/index"
	"trellis/slots"
	"trellis/value"
)

// lists: the ids of the kind's records.
func lists(t *testing.T, s *slots.Store, kind int, want ...int64) {
	t.Helper()
	same(t, "Used", must(s.Used(kind)), want)
}

// keyed: the index has just these keys.
func keyed(t *testing.T, s *slots.Store, want ...api.Key) {
	t.Helper()
	last := api.Key{}
	for i := range last {
		last[i] = 255
	}
	same(t, "the index", must(index.Scan(s, api.Key{}, last, 10000)), want)
}

func key(label, key string, v api.Val, id int64) api.Key { return must(value.KeyOf(label, key, v, id)) }

// TestP706Records: the bytes of the records of all kinds of values, nodes and edges.
func TestP706Records(t *testing.T) {
	long := "0123456789abcdef0123456789abcdéf"[:32]
	vals := []api.Val{yes, no, num(0), num(-2), num(1 << 62), num(-1 << 63), cpx(3, -4), cpx(-1<<25, 1<<25)}
	texts := []api.Val{str(""), str("a"), str("é\x00b"), str(long)}
	var props, more []api.Prop
	for i, v := range vals {
		props = append(props, pr(string(rune('a'+i)), v))
	}
	for i, v := range texts {
		more = append(more, pr(string(rune('a'+i)), v))
	}
	d, s := grown(t, 60, wide)
	applies(t, s, api.Delta{
		NewNodes: list(nd(-1, "zzzzzzzz", props...), nd(-2, "a0", more...)),
		NewEdges: list(ed(-1, "road", -1, -2, props[:2]...), ed(-2, "loop", -2, -2)),
	}, list[int64](1, 2), list[int64](1, 2))
	at := below(t, d)
	lists(t, at, 1, 1, 2)
	has(t, at, 1, 1, nodeRec("zzzzzzzz", 1, 0, 1))
	has(t, at, 1, 2, nodeRec("a0", 2, 2, 9))
	lists(t, at, 2, 1, 2)
	has(t, at, 2, 1, edgeRec("road", [...]int64{1, 2, 0, 0, 2, 0, 13}))
	has(t, at, 2, 2, edgeRec("loop", [...]int64{2, 2, 0, 0, 0, 1, 0}))
	lists(t, at, 3, 1, 2, 3, 4, 5, 6, 7, 8, 9, 10, 11, 12, 13, 14)
	for i, p := range props {
		ahead, behind := int64(i), int64(i+2)%9
		has(t, at, 3, int64(i+1), propRec(p.Key, ahead, behind, p.Val))
	}
	for i, p := range more {
		ahead, behind := [...]int64{0, 9, 10, 11}[i], [...]int64{10, 11, 12, 0}[i]
		has(t, at, 3, int64(i+9), propRec(p.Key, ahead, behind, p.Val))
	}
	has(t, at, 3, 13, propRec("a", 0, 14, yes))
	has(t, at, 3, 14, propRec("b", 13, 0, no))
	same(t, "RootCommits", must(at.Root(3)), 1)
	same(t, "the others", list(must(at.Root(4)), must(at.Root(5)), must(at.Root(6)), must(at.Root(7))), list(0, 0, 0, 0))
	tells(t, s, api.Graph{
		Nodes: list(nd(1, "zzzzzzzz", props...), nd(2, "a0", more...)),
		Edges: list(ed(1, "road", 1, 2, props[:2]...), ed(2, "loop", 2, 2)),
	})
}

// TestP706Index: a key for each property of each node, none for an edge's; it follows every change.
func TestP706Index(t *testing.T) {
	d, s := grown(t, 60, wide, rich)
	name, one, two := key("city", "name", str("ulm"), 1), key("city", "pop", num(5), 1), key("city", "pop", num(5), 2)
	keyed(t, below(t, d), name, one, two)
	applies(t, s, api.Delta{SetNodes: list(to(1, "pop", num(4)), to(3, "pop", str("x"))), SetEdges: list(to(1, "a", yes), to(1, "len", yes))}, nil, nil)
	keyed(t, below(t, d), name, key("city", "pop", num(4), 1), two, key("town", "pop", str("x"), 3))
	applies(t, s, api.Delta{SetNodes: list(to(1, "name", null), to(2, "none", null), to(3, "pop", null)), SetEdges: list(to(1, "len", null))}, nil, nil)
	keyed(t, below(t, d), key("city", "pop", num(4), 1), two)
	applies(t, s, api.Delta{DelEdges: list[int64](1, 2), DelNodes: list[int64](1)}, nil, nil)
	keyed(t, below(t, d), two)
}

// TestP706SameKey: two values with the same eight bytes have one key: it is deleted, then inserted again; the same value, too.
func TestP706SameKey(t *testing.T) {
	d, s := grown(t, 60, wide, api.Delta{NewNodes: list(nd(-1, "a", pr("k", str("0123456789"))))})
	k := key("a", "k", str("0123456xyz"), 1)
	for _, v := range []api.Val{str("0123456xyz"), str("0123456xyz"), str("0123456")} {
		applies(t, s, api.Delta{SetNodes: list(to(1, "k", v))}, nil, nil)
		keyed(t, below(t, d), key("a", "k", v, 1))
		found(t, s, "a", "k", v, 1)
		found(t, s, "a", "k", str("0123456789"))
	}
	if key("a", "k", str("0123456789"), 1) != k {
		t.Errorf("the keys are unlike")
	}
	has(t, below(t, d), 3, 1, propRec("k", 0, 0, str("0123456")))
}

// TestP706DeletesOfChains: each of the edges of two chains goes from each place, alone and with its neighbours.
func TestP706DeletesOfChains(t *testing.T) {
	for mask := range 1 << 6 {
		x := nodesOf(3)
		want := api.Graph{Nodes: list(nd(1, "a"), nd(2, "a"), nd(3, "a"))}
		var gone []int64
		ends := [][2]int64{{1, 2}, {1, 1}, {2, 1}, {1, 2}, {3, 1}, {1, 1}}
		for i, e := range ends {
			x.NewEdges = append(x.NewEdges, ed(int64(-1-i), "t", -e[0], -e[1]))
			if mask>>i&1 == 1 {
				gone = append(gone, int64(i+1))
			} else {
				want.Edges = append(want.Edges, ed(int64(i+1), "t", e[0], e[1]))
			}
		}
		d, s := grown(t, 60, wide, x)
		if mask > 0 {
			applies(t, s, api.Delta{DelEdges: gone}, nil, nil)
		}
		tells(t, s, want)
		sound(t, below(t, d))
	}
}

// TestP706PropsOfAChain: a property comes to its place, at each place; goes from each; the others stay where they are.
func TestP706PropsOfAChain(t *testing.T) {
	keys := []string{"b", "d", "f"}
	for _, ofEdge := range []bool{false, true} {
		sets := func(list ...api.PropSet) api.Delta {
			if ofEdge {
				return api.Delta{SetEdges: list}
			}
			return api.Delta{SetNodes: list}
		}
		for i, k := range []string{"a", "c", "e", "g"} {
			var props []api.Prop
			for _, k := range keys {
				props = append(props, pr(k, yes))
			}
			x := api.Delta{NewNodes: list(nd(-1, "a")), NewEdges: list(ed(-1, "t", -1, -1))}
			if ofEdge {
				x.NewEdges[0].Props = props
			} else {
				x.NewNodes[0].Props = props
			}
			d, s := grown(t, 60, wide, x)
			applies(t, s, sets(to(1, k, num(9))), nil, nil)
			ahead, behind := int64(i), int64(i+1)%4
			has(t, below(t, d), 3, 4, propRec(k, ahead, behind, num(9)))
			sound(t, below(t, d))
			for j, gone := range keys {
				applies(t, s, sets(to(1, gone, null)), nil, nil)
				if _, code := below(t, d).Get(3, int64(j+1)); code != api.ErrSlotId {
					t.Errorf("the property %s is not freed", gone)
				}
				sound(t, below(t, d))
			}
			has(t, below(t, d), 3, 4, propRec(k, 0, 0, num(9)))
		}
	}
}

// TestP706Ids: ids are got in the order of making, the least free one each time: behind all deletes, nodes' properties ahead of edges', those of sets last.
func TestP706Ids(t *testing.T) {
	d, s := grown(t, 60, wide,
		api.Delta{NewNodes: list(nd(-1, "a", numbered(3)...), nd(-2, "a"), nd(-3, "a", numbered(2)...), nd(-4, "a")), NewEdges: list(ed(-1, "t", -1, -3, numbered(1)...), ed(-2, "t", -3, -1), ed(-3, "t", -4, -4, numbered(2)...))})
	applies(t, s, api.Delta{
		DelEdges: list[int64](1, 2),
		DelNodes: list[int64](2, 3),
		SetNodes: list(to(1, "aa", num(1)), to(1, "b", null), to(4, "k", num(2))),
		SetEdges: list(to(3, "a", null), to(3, "z", num(3))),
		NewNodes: list(nd(-1, "b", pr("x", yes), pr("y", yes)), nd(-2, "b"), nd(-3, "b", pr("x", no))),
		NewEdges: list(ed(-1, "u", -3, 1, pr("q", yes)), ed(-2, "u", -1, -1), ed(-3, "u", 4, -2)),
	}, list[int64](2, 3, 5), list[int64](1, 2, 4))
	at := below(t, d)
	// Of the properties, 2, 4, 5, 6 and 7 were freed: 1 and 3 are node 1's, 8 edge 3's.
	lists(t, at, 3, 1, 2, 3, 4, 5, 6, 7, 8, 9, 10)
	has(t, at, 3, 2, propRec("x", 0, 4, yes))
	has(t, at, 3, 4, propRec("y", 2, 0, yes))
	has(t, at, 3, 5, propRec("x", 0, 0, no))
	has(t, at, 3, 6, propRec("q", 0, 0, yes))
	has(t, at, 3, 7, propRec("aa", 1, 3, num(1)))
	has(t, at, 3, 8, propRec("b", 0, 10, num(1)))
	has(t, at, 3, 9, propRec("k", 0, 0, num(2)))
	has(t, at, 3, 10, propRec("z", 8, 0, num(3)))
}

// TestP706Commits: each write set that is not empty counts one, also one that changes nothing else.
func TestP706Commits(t *testing.T) {
	d, s := grown(t, 60, wide, rich)
	applies(t, s, api.Delta{SetNodes: list(to(3, "none", null))}, nil, nil)
	counts(t, s, 2)
	applies(t, s, api.Delta{SetEdges: list(to(3, "none", null))}, nil, nil)
	counts(t, s, 3)
	applies(t, s, api.Delta{SetNodes: list(to(1, "pop", num(5)))}, nil, nil)
	counts(t, s, 4)
	for _, x := range []api.Delta{{}, {DelEdges: []int64{}, DelNodes: []int64{}, NewNodes: []api.Node{}, NewEdges: []api.Edge{}, SetNodes: []api.PropSet{}, SetEdges: []api.PropSet{}}} {
		refuses(t, d, s, x, api.OK)
	}
	same(t, "RootCommits", must(below(t, d).Root(3)), 4)
}

// TestP706Sync: with sync it lasts at once, without it does not.
func TestP706Sync(t *testing.T) {
	d, s := grown(t, 60, wide)
	was := d.Stat()
	_, code := s.Apply(nodesOf(1), false, false)
	wants(t, "Apply", code, api.OK)
	if now := d.Stat(); now.Flushes != was.Flushes || now.Pending == 0 {
		t.Errorf("without sync: %+v behind %+v", now, was)
	}
	_, code = s.Apply(nodesOf(1), false, true)
	wants(t, "Apply", code, api.OK)
	if now := d.Stat(); now.Flushes != was.Flushes+1 || now.Pending != 0 {
		t.Errorf("with sync: %+v behind %+v", now, was)
	}
}

// TestP714Meaning: one write set that does everything at once leaves just the graph that its words say.
func TestP714Meaning(t *testing.T) {
	_, s := grown(t, 60, wide, rich)
	applies(t, s, api.Delta{
		DelEdges: list[int64](1, 3),
		DelNodes: list[int64](3),
		NewNodes: list(nd(-2, "lake"), nd(-3, "hill", pr("top", num(9)))),
		NewEdges: list(ed(-1, "at", -3, -2), ed(-5, "at", 1, -3, pr("a", yes)), ed(-6, "at", -2, -2)),
		SetNodes: list(to(1, "name", null), to(1, "pop", num(6)), to(2, "area", cpx(1, 2)), to(2, "none", null)),
		SetEdges: list(to(2, "len", str("far"))),
	}, list[int64](3, 4), list[int64](1, 3, 4))
	tells(t, s, api.Graph{
		Nodes: list(nd(1, "city", pr("pop", num(6))), nd(2, "city", pr("area", cpx(1, 2)), pr("pop", num(5))), nd(3, "lake"), nd(4, "hill", pr("top", num(9)))),
		Edges: list(ed(1, "at", 4, 3), ed(2, "road", 2, 1, pr("len", str("far"))), ed(3, "at", 1, 4, pr("a", yes)), ed(4, "at", 3, 3)),
	})
	found(t, s, "city", "pop", num(5), 2)
	found(t, s, "city", "name", str("ulm"))
}
