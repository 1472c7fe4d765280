package server_test

import (
	"fmt"
	"slices"
	"strings"
	"testing"

	"trellis/api"
	"trellis/syntax"
	"trellis/value"
)

// TestP5TheGreatestCommits: as many commits of all pages as there are units, without a sweep; and again behind one, the log going round.
func TestP5TheGreatestCommits(t *testing.T) {
	for _, units := range []int64{1, 2, 3, 7, 64} {
		for _, most := range []int64{1, 3, 16} {
			c := newClient(t)
			c.do(api.DoFormat, 1, 1, 1, 1, units, most)
			stamp, commits := int64(0), int64(0)
			for range 3 {
				for range units {
					text := "create (a:n {k: 1})-[:r {w: 1}]->(a)"
					if commits%2 == 1 {
						text = "match (a:n) detach delete a"
					}
					stamp++
					c.begins(7, text, stamp)
					c.picks(7, 1, 0, 0, 0)
					c.picks(7, 5, 0, 0, 0)
					commits++
					c.do(api.DoForget, 7)
				}
				stamp++
				c.begins(8, "return 1", stamp)
				c.status(2, commits, 0, 1, 8) // the log is full: nobody enters
				c.picks(0)
				c.status(2, commits, 1, 8, 0)
				c.do(api.DoRun, 9)
				c.do(api.DoForget, 8)
			}
		}
	}
}

// TestP5AGreatStore: one unit, and a commit that goes through a store of as many pages as there can be.
func TestP5AGreatStore(t *testing.T) {
	c := newClient(t)
	c.gives(1+2+301+256, c.do(api.DoFormat, 20, 21, 64, 150, 1, 1))
	c.done("create (:n {k: 0})")
	for range 6 {
		c.done("match (a:n) create (:n)")
	}
	c.done("match (a:n) set a.k = 1, a.j = 2")
	c.done("match (a:n) with a limit 61 create (a)-[:r]->(a)")
	same(t, "what there is", c.answer("match (a) return count(*); match ()-[e]->() return count(*)"), "64 | 61")
	c.done("match (a:n) set a.k = 5, a.j = null create (a)-[:s]->(:m) with a limit 1 match ()-[e:r]->() delete e; match (a:m) detach delete a")
	same(t, "what there is", c.answer("match (a {k: 5}) return count(*); match ()-[e]->() return count(*)"), "64 | 0")
	c.done("match (a) detach delete a")
	same(t, "nothing", c.graph(), api.Graph{})
}

// TestP6Examples: what the chapter of the machine says of its examples, through the whole.
func TestP6Examples(t *testing.T) {
	c := wide(t, 9, 3)
	c.done("create (a:city {name: 'ulm', pop: 5})-[:road {len: 4}]->(b:city {name: 'bern'})-[:road {len: 1}]->(c:town), (a)-[:rail]->(c)")
	for query, want := range map[string]string{
		"match (a:city) return a.name, a.pop":                                "'ulm' 5; 'bern' null",
		"match (a:city {name: 'ulm'})-[e:road]->(b) return b.name":           "'bern'",
		"match (a {name: 'ulm'})-[*1..2]->(b) return b":                      "(2); (3); (3)",
		"match (a:town) optional match (a)-[e]->(b) return a, b":             "(3) null",
		"match (a)-[e]-(b) return count(*)":                                  "6",
		"match (a)-[]->(b)-[]->(c) return a, c":                              "(1) (3)",
		"match (a:gone) abort":                                               "",
		"match (a:town) abort":                                               "error 4",
		"match (a:city) delete a":                                            "error 72",
		"merge (a:city {name: 'bern'}) return a":                             "(2)",
		"return 2 + 3 * 4 - -1, not false or null, 'a' < 'b', 3 = 3i, 7 % 4": "15 true true false 3",
		"match (a {name: 'ulm'}), (t:town) return dist(a, t, road, len), hops(a, t), deg(a), deg(a, rail)": "5 1 2 1",
		"match (a:city) with a.name as n order by n return n, case when n = 'ulm' then 1 else 2 end as c":  "'bern' 2; 'ulm' 1",
		"match (a) return label(a) as l, count(*) as n order by n, l desc":                                 "'town' 1; 'city' 2",
		"match (a) return distinct label(a) order by 1 skip 1":                                             "'town'",
		"match (a)-[e]->(b) return type(e), e.len order by 2 desc, 1 limit 2":                              "'rail' null; 'road' 4",
	} {
		same(t, query, c.answer(query), want)
	}
	same(t, "set", c.answer("match (a:city) set a.pop = coalesce(a.pop, 0) + 1 return a.pop"), "6; 1")
	same(t, "merge", c.answer("match (x:city) merge (a:kind {k: 1}) return a"), "(-1); (-1)")
	same(t, "delete", c.answer("match (a:city) detach delete a return count(*)"), "2")
	same(t, "what is left", c.answer("match (a) return a, label(a)"), "(3) 'town'; (4) 'kind'")
}

// spaced: the tokens of the text, each on a line of its own behind a comment.
func spaced(text string) string {
	tokens, _, _ := syntax.Lex(text)
	var out strings.Builder
	for i, k := range tokens[:len(tokens)-1] {
		end := tokens[i+1].At
		out.WriteString(" //x\n\t" + strings.TrimSpace(text[k.At:end]))
	}
	return out.String()
}

// TestP6Printed: a program, the program as it is printed, and as it is written with other blanks and comments: the same replies, whoever is picked.
func TestP6Printed(t *testing.T) {
	for seed := range int64(60) {
		d := newDraw(seed)
		list := []*client{wide(t, 5, 4), wide(t, 5, 4), wide(t, 5, 4)}
		all := func(do func(i int, c *client) api.Reply) {
			t.Helper()
			first := do(0, list[0])
			for i, c := range list[1:] {
				if got := do(i+1, c); told(got) != told(first) {
					c.fail("seed %d: P6: %+v, want %+v", seed, got, first)
				}
			}
		}
		for id := int64(1); id <= 12; id++ {
			text := d.program()
			program, _, _ := syntax.Program(text)
			printed, code := syntax.PrintProgram(program)
			if code != api.OK {
				t.Fatalf("PrintProgram: %d", code)
			}
			texts := []string{text, printed, spaced(text)}
			all(func(i int, c *client) api.Reply { return c.submit(id, texts[i]) })
			for range d.Intn(8) {
				who := d.Int63n(id + 1)
				all(func(_ int, c *client) api.Reply { return c.do(api.DoPick, who) })
				all(func(_ int, c *client) api.Reply { return c.do(api.DoWaits) })
			}
		}
		all(func(_ int, c *client) api.Reply { return c.do(api.DoRun, 999) })
		for id := int64(1); id <= 12; id++ {
			for k := range int64(5) {
				all(func(_ int, c *client) api.Reply { return c.do(api.DoResult, id, k) })
			}
		}
		all(func(_ int, c *client) api.Reply { return c.do(api.DoDump) })
	}
}

// literal: a value as a query has it.
func literal(v api.Val) string {
	if v.Kind == api.KCpx {
		return fmt.Sprintf("cpx(%d, %d)", v.A, v.B)
	}
	return value.Print(v)
}

// listed: rows as they are shown.
func listed(rows []string) string { return strings.Join(rows, "; ") }

// found: P7: all of the graph is found, each by each way, and nothing else is.
func (c *client) found(labels, keys []string, vals []api.Val) {
	c.t.Helper()
	g := c.graph()
	var all, edges, back []string
	for _, n := range g.Nodes {
		all = append(all, fmt.Sprintf("(%d) '%s'", n.Id, n.Label))
	}
	for _, e := range g.Edges {
		edges = append(edges, fmt.Sprintf("[%d] (%d) (%d) '%s'", e.Id, e.From, e.To, e.Type))
		back = append(back, fmt.Sprintf("[%d] (%d) (%d) '%s'", e.Id, e.To, e.From, e.Type))
	}
	same(c.t, "P7: the nodes", c.answer("match (a) return a, label(a)"), listed(all))
	same(c.t, "P7: the edges, forwards", c.answer("match (a)-[e]->(b) return e, a, b, type(e) order by e"), listed(edges))
	same(c.t, "P7: the edges, backwards", c.answer("match (a)<-[e]-(b) return e, a, b, type(e) order by e"), listed(back))
	for _, label := range labels {
		var of []string
		for _, n := range g.Nodes {
			if n.Label == label {
				of = append(of, fmt.Sprintf("(%d)", n.Id))
			}
		}
		same(c.t, "P7: by the label "+label, c.answer(fmt.Sprintf("match (a:%s) return a", label)), listed(of))
		for _, key := range keys {
			for _, v := range vals {
				c.foundBy(g, label, key, v)
			}
		}
	}
}

// foundBy: the nodes of that label with just that value.
func (c *client) foundBy(g api.Graph, label, key string, v api.Val) {
	c.t.Helper()
	var want []string
	for _, n := range g.Nodes {
		if n.Label == label && slices.Contains(n.Props, prop(key, v)) {
			want = append(want, fmt.Sprintf("(%d)", n.Id))
		}
	}
	query := fmt.Sprintf("match (a:%s {%s: %s}) return a", label, key, literal(v))
	same(c.t, "P7: "+query, c.answer(query), listed(want))
}

// TestP7Drawn: behind drawn commits, and behind crashes.
func TestP7Drawn(t *testing.T) {
	long := strings.Repeat("a", 31)
	vals := []api.Val{whole(0), whole(1), whole(2), whole(3), whole(-1), {Kind: api.KCpx, B: 2}, {Kind: api.KCpx, A: 2}, text("x"), text(""), {Kind: api.KBool, A: 1}, text(long + "a"), text(long + "b"), text(long)}
	for seed := range int64(12) {
		x := newBench(t, seed, api.Sizes{Node: 4, Edge: 4, Prop: 16, Tree: 24}, 4, 3).filled()
		for round := range 4 {
			for range 12 {
				program := x.program()
				if x.one(3) {
					program = fmt.Sprintf("create (:n {k: '%s%s', j: '%s'})", long, pick(x.draw, "a", "b"), long)
				}
				x.begin(program)
				x.runOn(200)
				for id := range x.texts {
					x.do(api.DoForget, id)
					delete(x.texts, id)
				}
			}
			if round%2 == 1 {
				x.crash()
				x.do(api.DoOpen)
				x.risen()
			}
			x.found([]string{"n", "m", "o", "rule"}, []string{"k", "j"}, vals)
		}
	}
}

// TestP9EachRule: a rule that the graph breaks is not let in; one that it keeps is, and holds from then on, until it is taken away.
func TestP9EachRule(t *testing.T) {
	for _, x := range []struct{ rule, good, bad, more string }{
		{"kind: 'unique', of: 'a', key: 'k'", "create (:a {k: 1}), (:a {k: 2}), (:b {k: 1}), (:a)", "create (:a {k: 1})", "match (x:a {k: 2}) set x.k = 1"},
		{"kind: 'needs', of: 'a', key: 'k'", "create (:a {k: 1}), (:b)", "create (:a)", "match (x:a {k: 1}) remove x.k"},
		{"kind: 'only', of: 'a', key: 'k', type: 'int'", "create (:a {k: 1}), (:a), (:b {k: 'x'})", "create (:a {k: 'x'})", "match (x:a {k: 1}) set x.k = 1i"},
		{"kind: 'link', of: 'r', from: 'a', to: 'b'", "create (:a)-[:r]->(:b)-[:s]->(:a)", "create (:b)-[:r]->(:a)", "match (x:a), (y:a) create (x)-[:r]->(y)"},
		{"kind: 'most', of: 'r', n: 1", "create (x:a)-[:r]->(:b), (x)-[:s]->(:b)-[:r]->(:c)", "match (x:a) create (x)-[:r]->(:b)", "match (x:a), (y:c) create (x)-[:r]->(y)"},
		{"kind: 'order', of: 'r'", "create (x:a)-[:r]->(:b)-[:s]->(x)", "match (x:a), (y:b) create (y)-[:r]->(x)", "match (x:b) create (x)-[:r]->(x)"},
	} {
		rule := "create (:rule {" + x.rule + "})"
		c := wide(t, 9, 3)
		c.done(x.good)
		c.done(x.bad)
		same(t, "the rule "+x.rule+" over what breaks it", c.answer(rule), "error 180")
		c = wide(t, 9, 3)
		c.done(x.good)
		c.done(rule)
		was := c.graph()
		for _, bad := range []string{x.bad, x.more, x.bad + "; " + x.good} {
			same(t, bad+" against the rule "+x.rule, c.answer(bad), "error 180")
			same(t, "the graph", c.graph(), was)
		}
		c.crash()
		c.do(api.DoOpen)
		same(t, "behind a crash", c.answer(x.bad), "error 180")
		c.done(x.bad + "; match (x:rule) delete x") // just what is left at the end counts
		c.done(x.more)
	}
}

// TestP9NoRule: nodes of that label that say none.
func TestP9NoRule(t *testing.T) {
	c := wide(t, 9, 3)
	for _, props := range []string{"", "kind: 'other', of: 'a'", "kind: 'order'", "kind: 'order', of: 'A'", "kind: 'order', of: 'a', n: 1", "kind: 'most', of: 'a', n: -1", "kind: 'only', of: 'a', key: 'k', type: 'node'", "kind: 1, of: 'a'"} {
		same(t, "a node {"+props+"}", c.answer("create (:rule {"+props+"})"), "error 181")
	}
	c.done("create (:rule {kind: 'most', of: 'r', n: 1})")
	same(t, "a rule that says none any more", c.answer("match (a:rule) remove a.n"), "error 181")
	same(t, "it comes ahead of a rule that is broken", c.answer("create (:rule), (x:a)-[:r]->(x)-[:r]->(x)"), "error 181")
	same(t, "the rules", c.answer("match (a:rule) return a.kind, a.n"), "'most' 1")
}

// TestP9Together: two that are fine alone, and together break a rule: the later one fails, whoever was submitted first.
func TestP9Together(t *testing.T) {
	for _, order := range [][]int64{{1, 2}, {2, 1}} {
		c := wide(t, 9, 3)
		c.done("create (:rule {kind: 'unique', of: 'a', key: 'k'}), (:a {k: 1})")
		c.begins(1, "create (:a {k: 5})", 2)
		c.begins(2, "create (:a {k: 5})", 3)
		c.picks(1, 1, 0, 0, 0)
		c.picks(2, 1, 0, 0, 0)
		c.picks(order[0], 5, 0, 0, 0)
		c.picks(order[1], 6, int64(api.ErrRule), 0, 0)
		same(t, "the values", c.answer("match (a:a) return a.k"), "1; 5")
	}
	c := wide(t, 9, 3)
	c.begins(1, "create (:rule {kind: 'needs', of: 'a', key: 'k'})", 1)
	c.begins(2, "create (:a)", 2)
	c.picks(1, 1, 0, 0, 0)
	c.picks(2, 1, 0, 0, 0)
	c.picks(2, 5, 0, 0, 0)
	c.picks(1, 6, int64(api.ErrRule), 0, 0) // the rule came too late
}
