package machine_test

import (
	"testing"

	"trellis/api"
	"trellis/check"
	"trellis/machine"
	"trellis/space"
)

// hand: a row: n and m nodes, e an edge, i a whole number, s a string, b a bool, z null.
func hand() map[string]api.Val {
	return map[string]api.Val{"n": nodeAt(1), "m": nodeAt(2), "e": edgeAt(1), "i": num(7), "s": str("ab"), "b": yes(), "z": null}
}

// TestP1305Worth: each form of an expression, over the graph bush.
func TestP1305Worth(t *testing.T) {
	for text, want := range map[string]string{
		"'x'": "'x'", "-3": "-3", "4i": "0+4i", "null": "null", "true": "true",
		"n": "(1)", "e": "[1]", "z": "null", "i": "7",
		"n.k": "1", "n.nix": "null", "n.b": "true", "e.w": "3", "e.nix": "null", "z.k": "null",
		"-i": "-7", "not b": "false", "-z": "null", "not z": "null",
		"i + 1": "8", "i - 9": "-2", "i * 2": "14", "i / 2": "3", "i % 4": "3", "s + 'c'": "'abc'", "i + z": "null",
		"i = 7": "true", "i <> 7": "false", "i < 8": "true", "i <= 7": "true", "i > 7": "false", "i >= 7": "true", "n = m": "false", "n <> e": "true", "i < s": "null",
		"b and z": "null", "false and z": "false", "b or z": "true", "b xor true": "false", "z xor b": "null",
		"s starts with 'a'": "true", "s ends with 'a'": "false", "s contains 'b'": "true",
		"z is null": "true", "i is null": "false", "z is not null": "false", "i is not null": "true",
		"re(3 + 4i)": "3", "im(3 + 4i)": "4", "conj(3 + 4i)": "3-4i", "norm(3 + 4i)": "25", "len(s)": "2", "abs(-i)": "7", "cpx(i, 2)": "7+2i", "re(z)": "null",
		"label(n)": "'x'", "label(z)": "null", "type(e)": "'t'", "type(z)": "null",
		"coalesce(z, null, i, 1)": "7", "coalesce(z)": "null", "coalesce(n.nix, n.k)": "1",
		"3 + 4i = cpx(3, 4)": "true",
	} {
		eval(t, bush(), text, hand(), want)
	}
}

// TestP1305In: unlike kinds are not the same, but for a whole number and the complex one that is as great; null is not known.
func TestP1305In(t *testing.T) {
	for text, want := range map[string]string{
		"i in []": "false", "z in []": "false", "i in [1, 7]": "true", "i in [7, null]": "true", "i in [null, 7]": "true", "i in [1, null]": "null", "i in [1, 2]": "false", "z in [1]": "null", "z in [null]": "null",
		"7 + 0i in [i]": "true", "s in [1, n, e, 'ab']": "true", "n in [m, e]": "false", "1 in [1, 2, 3, 4, 5, 6, 7, 8]": "true", "8 in [1, 2, 3, 4, 5, 6, 7, 8]": "true",
	} {
		eval(t, bush(), text, hand(), want)
	}
}

// TestP1305Case: the first condition that is true; null is passed over.
func TestP1305Case(t *testing.T) {
	for text, want := range map[string]string{
		"case when b then 1 else 2 end": "1", "case when not b then 1 else 2 end": "2", "case when z then 1 else 2 end": "2", "case when z then 1 end": "null",
		"case when false then 1 when true then 2 when true then 3 else 4 end": "2",
		"case when b then n else 1 / 0 end":                                   "(1)", "case when not b then 1 / 0 when true then e end": "[1]", "case when b then 1 when i then 2 end": "1",
		"case when z then 1 when i then 2 else 3 end": "error 10", "case when n then 1 end": "error 10",
	} {
		eval(t, bush(), text, hand(), want)
	}
}

// TestP1305Ways: degrees, hops and distances; rings, edges side by side, a type, a weight that is not there.
func TestP1305Ways(t *testing.T) {
	row := hand()
	row["y"], row["q"], row["far"] = nodeAt(4), nodeAt(5), nodeAt(9)
	for text, want := range map[string]string{
		"deg(n)": "2", "deg(n, t)": "2", "deg(n, u)": "0", "deg(m)": "3", "deg(m, u)": "2", "deg(m, nix)": "0", "deg(far)": "0", "deg(z)": "null", "deg(z, t)": "null",
		"hops(n, n)": "0", "hops(n, m)": "1", "hops(n, y)": "2", "hops(n, q)": "3", "hops(m, n)": "1", "hops(n, far)": "null", "hops(far, n)": "null", "hops(m, n, t)": "null", "hops(m, n, u)": "1", "hops(z, n)": "null", "hops(n, z)": "null", "hops(z, z)": "null",
		"dist(n, m, t, w)": "1", "dist(n, q, t, w)": "3", "dist(n, n, t, w)": "0", "dist(m, n, u, w)": "null", "dist(n, m, t, nix)": "null", "dist(z, n, t, w)": "null", "dist(n, z, t, w)": "null", "dist(q, n, t, w)": "null", "dist(q, n, u, nix)": "null",
		"dist(q, n, u, w)": "error 10", "hops(n, 1)": "error 10", "hops(1, z)": "error 10", "hops(z, e)": "error 10", "dist(z, i, t, w)": "error 10", "dist(i, n, t, w)": "error 10",
	} {
		eval(t, bush(), text, row, want)
	}
}

// TestP1305Asked: what the expressions ask, and that they ask each time.
func TestP1305Asked(t *testing.T) {
	for text, asked := range map[string]string{
		"n.k + n.k": "Node 1; Node 1", "e.w + n.k": "Edge 1; Node 1", "z.k": "", "n": "", "label(n)": "Node 1", "type(e)": "Edge 1", "label(z)": "", "type(z)": "",
		"deg(n)": "Out 1", "deg(n, t)": "Out 1; Edge 1; Edge 2", "deg(m, nix)": "Out 2; Edge 3; Edge 4; Edge 6", "deg(z, t)": "",
		"hops(n, n)": "", "hops(n, z)": "", "hops(n, m)": "Out 1; Edge 1; Edge 2", "hops(n, m, u)": "Out 1; Edge 1; Edge 2", "dist(n, m, t, w)": "Out 1; Edge 1; Edge 2", "dist(z, n, t, w)": "",
		"dist(m, n, t, w)":        "Out 2; Edge 3; Edge 4; Edge 6; Out 4; Edge 7; Out 5; Edge 8",
		"b or n.b":                "Node 1",
		"false and n.b":           "Node 1",
		"i in [7, n.k, e.w]":      "Node 1; Edge 1",
		"coalesce(1, n.k)":        "",
		"coalesce(n.nix, e.w, 1)": "Node 1; Edge 1",
		"case when n.b then e.w when m.k then 1 else 2 end":             "Node 1; Edge 1",
		"case when not n.b then e.w when e.w = 3 then m.k else n.k end": "Node 1; Edge 1; Node 2",
		"case when n.nix then e.w else m.k end":                         "Node 1; Node 2",
		"n.nix + e.w":                                                   "Node 1; Edge 1",
	} {
		v, s := over(t, bush())
		evaluated(t, s, text, hand())
		same(t, text+": asked", v.asked(), asked)
	}
}

// TestP1305ExprFaults: each error ends it where it is met: what stands behind is not asked.
func TestP1305ExprFaults(t *testing.T) {
	for _, c := range []struct {
		text, want, asked string
	}{
		{"i.k", "error 10", ""}, {"s.k + n.k", "error 10", ""}, {"n.k / 0 + e.w", "error 12", "Node 1"}, {"n.k + i.k", "error 10", "Node 1"}, {"label(e)", "error 10", ""}, {"label(i)", "error 10", ""}, {"type(n)", "error 10", ""}, {"deg(e)", "error 10", ""}, {"deg(s, t)", "error 10", ""},
		{"-n.b", "error 10", "Node 1"}, {"not i", "error 10", ""}, {"b and i", "error 10", ""}, {"cpx(33554433, n.k)", "error 11", "Node 1"}, {"9223372036854775807 + n.k", "error 11", "Node 1"}, {"(1 + 1i) / (i + 0i)", "error 13", ""}, {"s + '1234567890123456789012345678901'", "error 11", ""}, {"s starts with i", "error 10", ""},
		{"coalesce(z, 1 / 0, n.k)", "error 12", ""}, {"i in [1 / 0, n.k]", "error 12", ""}, {"i in [n.k, 1 / 0]", "error 12", "Node 1"}, {"case when 1 / 0 = 1 then n.k end", "error 12", ""},
		{"dist(n, z, t, w) + hops(n, i)", "error 10", ""},
	} {
		v, s := over(t, bush())
		same(t, c.text, evaluated(t, s, c.text, hand()), c.want)
		same(t, c.text+": asked", v.asked(), c.asked)
	}
}

// TestP1305WayFaults: what ends a search for ways, and how far it had asked then.
func TestP1305WayFaults(t *testing.T) {
	g := api.Graph{
		Nodes: []api.Node{nd(1, "n"), nd(2, "n"), nd(3, "n")},
		Edges: []api.Edge{ed(1, "t", 1, 2, "f", num(api.MaxFar), "g", num(-1), "h", cpx(1, 0), "w", num(1)), ed(2, "t", 2, 3, "f", num(1), "g", num(5), "h", num(1), "w", num(1)), ed(3, "t", 1, 1, "f", num(0), "g", str("x"), "h", num(1), "w", num(0)), ed(4, "u", 1, 2, "g", yes())},
	}
	row := map[string]api.Val{"a": nodeAt(1), "c": nodeAt(3)}
	for _, c := range []struct {
		text, want, asked string
	}{
		{"dist(a, c, t, w)", "2", "Out 1; Edge 1; Edge 3; Edge 4; Out 2; Edge 2"},
		{"dist(a, c, t, f)", "error 91", "Out 1; Edge 1; Edge 3; Edge 4; Out 2; Edge 2"},
		{"dist(a, c, t, g)", "error 10", "Out 1; Edge 1; Edge 3"}, // the weight below 0 stands ahead, but paths has not seen it yet
		{"dist(a, c, t, h)", "error 10", "Out 1; Edge 1"},
		{"dist(c, a, t, g)", "null", "Out 3"},
	} {
		v, s := over(t, g)
		same(t, c.text, evaluated(t, s, c.text, row), c.want)
		same(t, c.text+": asked", v.asked(), c.asked)
	}
	g.Edges = g.Edges[:2]
	v, s := over(t, g)
	same(t, "a weight below 0", evaluated(t, s, "dist(a, c, t, g)", row), "error 90")
	same(t, "a weight below 0: asked", v.asked(), "Out 1; Edge 1")
}

// TestP1305Steps: a search for ways settles no more nodes than paths does.
func TestP1305Steps(t *testing.T) {
	g := crowd(api.MaxLook + 1)
	for i := range int64(api.MaxLook) {
		g.Edges = append(g.Edges, ed(i+1, "t", i+1, i+2, "w", num(1)))
	}
	row := map[string]api.Val{"a": nodeAt(1), "b": nodeAt(2), "c": nodeAt(api.MaxLook + 1)}
	eval(t, g, "hops(b, c)", row, "4095")
	eval(t, g, "hops(a, c)", row, "error 92")
	eval(t, g, "dist(a, c, t, w)", row, "error 92")
}

// TestP1304Faults: which error comes first.
func TestP1304Faults(t *testing.T) {
	_, s := over(t, chapter())
	a, e, v := api.Bound{Name: "a", Kind: api.KNode}, api.Bound{Name: "e", Kind: api.KEdge}, api.Bound{Name: "v"}
	wrong := api.Val{Kind: 9}
	for _, c := range []struct {
		text string
		vars []api.Bound
		vals []api.Val
		want api.Errno
	}{
		{"a", []api.Bound{a}, nil, api.ErrArg},
		{"a", nil, []api.Val{null}, api.ErrArg},
		{"b", []api.Bound{a}, []api.Val{wrong, wrong}, api.ErrArg},
		{"b", []api.Bound{a}, []api.Val{wrong}, api.ErrCode},
		{"type(a)", []api.Bound{a}, []api.Val{null}, api.ErrCode},
		{"count(*)", nil, nil, api.ErrCode},
		{"1 + max(v)", []api.Bound{v}, []api.Val{wrong}, api.ErrCode},
		{"1", []api.Bound{a, a}, []api.Val{null, null}, api.ErrCode},
		{"1", []api.Bound{{Name: "A"}}, []api.Val{null}, api.ErrCode},
		{"1", []api.Bound{{Name: "a", Kind: api.KInt}}, []api.Val{null}, api.ErrCode},
		{"1 / 0", []api.Bound{v}, []api.Val{wrong}, api.ErrVal},
		{"1", []api.Bound{v}, []api.Val{{Kind: api.KNode}}, api.ErrVal},
		{"1", []api.Bound{v}, []api.Val{{A: 1}}, api.ErrVal},
		{"1", []api.Bound{v, a}, []api.Val{null, edgeAt(1)}, api.ErrVal},
		{"1", []api.Bound{a}, []api.Val{num(1)}, api.ErrVal},
		{"1", []api.Bound{e}, []api.Val{nodeAt(1)}, api.ErrVal},
		{"1", []api.Bound{e}, []api.Val{str("x")}, api.ErrVal},
		{"1", []api.Bound{a, e, v}, []api.Val{null, null, null}, api.OK},
		{"1", []api.Bound{a, e, v}, []api.Val{nodeAt(-7), edgeAt(77), edgeAt(-1)}, api.OK},
		{"a.k", []api.Bound{a}, []api.Val{nodeAt(9)}, api.ErrNoNode},
		{"a.k", []api.Bound{a}, []api.Val{nodeAt(-9)}, api.ErrNoNode},
		{"e.k", []api.Bound{e}, []api.Val{edgeAt(9)}, api.ErrNoEdge},
		{"deg(a)", []api.Bound{a}, []api.Val{nodeAt(9)}, api.ErrNoNode},
		{"-'a'", nil, nil, api.ErrKind},
	} {
		got, code := machine.Eval(parsedExpr(t, c.text), c.vars, c.vals, s)
		same(t, c.text, code, c.want)
		if code != api.OK && got != null {
			t.Errorf("%s: %v beside an error", c.text, got)
		}
		if _, code := machine.Eval(parsedExpr(t, c.text), c.vars, c.vals, nil); code != api.ErrArg {
			t.Errorf("%s, no space: %d", c.text, code)
		}
	}
	for _, e := range []api.Expr{{}, {Op: 11}, {Op: api.ELit, Val: wrong}, {Op: api.EBin, Sub: 1}, {Op: api.ECase}} {
		if got, code := machine.Eval(e, nil, nil, s); code != api.ErrCode || got != null {
			t.Errorf("Eval(%+v) = %v, %d", e, got, code)
		}
	}
}

// fan: a view that shows one node, with so many edges that leave it; it counts how often it was asked.
type fan struct {
	api.View
	edges, asked int
}

func (f *fan) Out(int64) ([]int64, api.Errno) {
	f.asked++
	var out []int64
	for i := range f.edges {
		out = append(out, int64(i+1))
	}
	return out, api.OK
}

func (f *fan) Edge(id int64) (api.Edge, api.Errno) {
	f.asked++
	return ed(id, "t", 1, 1), api.OK
}

// TestP1304Fuel: an expression has fuel for MaxFuel askings, each time anew.
func TestP1304Fuel(t *testing.T) {
	row := map[string]api.Val{"a": nodeAt(1)}
	f := &fan{edges: api.MaxFuel - 1}
	for range 2 {
		f.asked = 0
		same(t, "just enough", evaluated(t, space.New(f), "deg(a, t)", row), "1048575")
		same(t, "how much was asked", f.asked, api.MaxFuel)
	}
	f.asked, f.edges = 0, api.MaxFuel
	same(t, "one asking too many", evaluated(t, space.New(f), "deg(a, t)", row), "error 131")
	same(t, "how much was asked", f.asked, api.MaxFuel)
}

// TestP1304Own: a space's own nodes and edges, and those that are gone.
func TestP1304Own(t *testing.T) {
	v, s := over(t, chapter())
	s.AddNode("new", props("k", num(1)))
	s.AddEdge("road", -1, 1, props("len", num(2)))
	s.SetNode(1, "pop", num(6))
	s.DelNode(3, true)
	v.asked()
	row := map[string]api.Val{"o": nodeAt(-1), "r": edgeAt(-1), "a": nodeAt(1), "b": nodeAt(2), "g": nodeAt(3), "h": edgeAt(3)}
	for _, c := range []struct {
		text, want, asked string
	}{
		{"o.k", "1", ""}, {"label(o)", "'new'", ""}, {"type(r)", "'road'", ""}, {"r.len", "2", ""}, {"a.pop", "6", "Node 1"}, {"deg(o, road)", "1", ""}, {"deg(a)", "1", "Out 1"},
		{"dist(o, b, road, len)", "6", "Out 1; Edge 1"}, {"hops(b, o)", "null", "Out 2"}, {"hops(o, o)", "0", ""},
		{"g.k", "error 120", ""}, {"h.k", "error 120", ""}, {"deg(g)", "error 120", ""}, {"label(g)", "error 120", ""}, {"type(h)", "error 120", ""}, {"hops(g, a)", "error 120", ""}, {"hops(g, g)", "0", ""}, {"g", "(3)", ""}, {"h is null", "false", ""},
	} {
		same(t, c.text, evaluated(t, s, c.text, row), c.want)
		same(t, c.text+": asked", v.asked(), c.asked)
	}
}

// TestP1306Kinds: of each operation on each kind: what Eval answers is of a kind that Kinds tells, and an error where it tells none.
func TestP1306Kinds(t *testing.T) {
	_, s := over(t, bush())
	vals := []api.Val{null, yes(), no(), num(0), num(3), cpx(3, 0), cpx(0, 2), str(""), str("ab"), nodeAt(1), nodeAt(9), edgeAt(1)}
	texts := []string{"-v", "not v", "v + w", "v - w", "v * w", "v / w", "v % w", "v = w", "v <> w", "v < w", "v <= w", "v > w", "v >= w", "v and w", "v or w", "v xor w", "v starts with w", "v ends with w", "v contains w", "v is null", "v in [w, 3]", "v in []", "coalesce(v, w)", "case when v then w else 1 end", "case when v then 1 when w then 'x' end",
		"re(v)", "im(v)", "conj(v)", "norm(v)", "len(v)", "abs(v)", "cpx(v, w)", "label(v)", "type(v)", "deg(v)", "deg(v, t)", "hops(v, w)", "hops(v, w, u)", "dist(v, w, t, w)", "v.k", "v.k + w.k", "v"}
	for _, text := range texts {
		for _, v := range vals {
			for _, w := range vals {
				keepsKinds(t, parsedExpr(t, text), bounds(v, w), []api.Val{v, w}, s)
				keepsKinds(t, parsedExpr(t, text), []api.Bound{{Name: "v"}, {Name: "w"}}, []api.Val{v, w}, s)
			}
		}
	}
}

// bounds: v and w, known as a node or an edge, if they are one.
func bounds(v, w api.Val) []api.Bound {
	known := func(name string, x api.Val) api.Bound {
		if x.Kind < api.KNode {
			return api.Bound{Name: name}
		}
		return api.Bound{Name: name, Kind: x.Kind}
	}
	return []api.Bound{known("v", v), known("w", w)}
}

// keepsKinds: Eval must answer a value of the kinds that Kinds tells, or an error; ErrCode just where Kinds has one.
func keepsKinds(t *testing.T, e api.Expr, vars []api.Bound, vals []api.Val, s *space.Space) {
	t.Helper()
	kinds, err := check.Kinds(e, vars)
	got, code := machine.Eval(e, vars, vals, s)
	if (code == api.ErrCode) != (err != nil) {
		t.Errorf("Eval(%+v, %v, %v) = %d, Kinds: %v", e, vars, vals, code, err)
	}
	if code == api.OK && kinds>>got.Kind&1 == 0 {
		t.Errorf("Eval(%+v, %v, %v) = %v, Kinds: %b", e, vars, vals, got, kinds)
	}
}
