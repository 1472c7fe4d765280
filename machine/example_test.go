package machine_test

import (
	"testing"

	"trellis/api"
	"trellis/machine"
)

// The chapter's examples, by their numbers.

func TestP1305Example1(t *testing.T) {
	asks(t, chapter(), "match (a:city) return a.name, a.pop", "'ulm' 5; 'bern' null",
		"Nodes city; Node 1; Node 2; Node 1; Node 1; Node 2; Node 2")
}

func TestP1305Example2(t *testing.T) {
	asks(t, chapter(), "match (a:city {name: 'ulm'})-[e:road]->(b) return b.name", "'bern'",
		"Find city name 'ulm'; Node 1; Out 1; Edge 1; Node 2; Edge 3; Node 2")
}

func TestP1305Example3(t *testing.T) {
	asks(t, chapter(), "match (a {name: 'ulm'})-[*1..2]->(b) return b", "(2); (3); (3)",
		"Nodes; Node 1; Out 1; Edge 1; Node 2; Out 2; Edge 2; Node 3; Edge 3; Node 3; Out 3; Node 2; Node 3")
}

func TestP1305Example4(t *testing.T) {
	asks(t, chapter(), "match (a:town) optional match (a)-[e]->(b) return a, b", "(3) null", "Nodes town; Node 3; Node 3; Out 3")
}

func TestP1305Example5(t *testing.T) {
	gives(t, chapter(), "match (a)-[e]-(b) return count(*)", "6")
	gives(t, chapter(), "match (a)-[]->(b)-[]->(c) return a, c", "(1) (3)")
}

func TestP1302Example6(t *testing.T) {
	refused(t, "match (a:city) return dist(a, a, road, len), hops(a, b)")
	asks(t, chapter(), "match (a {name: 'ulm'}), (t:town) return dist(a, t, road, len), hops(a, t), deg(a), deg(a, rail)", "5 1 2 1",
		"Nodes; Node 1; Nodes town; Node 3; Node 2; Node 3; Out 1; Edge 1; Edge 3; Out 2; Edge 2; Out 1; Edge 1; Edge 3; Out 2; Edge 2; Out 1; Out 1; Edge 1; Edge 3")
}

func TestP1305Example7(t *testing.T) {
	asks(t, chapter(), "match (a:city) set a.pop = coalesce(a.pop, 0) + 1 return a.pop", "6; 1 | set 2",
		"Nodes city; Node 1; Node 2; Node 1; Hold 3  1 5; Node 1; Node 2; Hold 3  2 5; Node 2; Node 1; Node 2")
}

func TestP1305Example8(t *testing.T) {
	_, s := over(t, chapter())
	runs(t, s, "match (a:city) with a.pop as p order by p desc limit 1 match (b:town) create (b)-[:x {p: p}]->(c:new) return c", "(-1) | made 2")
	same(t, "what is made", s.Delta(), api.Delta{NewNodes: []api.Node{nd(-1, "new")}, NewEdges: []api.Edge{ed(-1, "x", 3, -1)}})
}

func TestP1305Example9(t *testing.T) {
	fails(t, chapter(), api.ErrHasEdges, "match (a:city) delete a")
	_, s := over(t, chapter())
	runs(t, s, "match (a:city) detach delete a return count(*)", "2 | gone 5")
	same(t, "what is gone", s.Delta(), api.Delta{DelNodes: []int64{1, 2}, DelEdges: []int64{1, 2, 3}})
}

func TestP1305Example10(t *testing.T) {
	gives(t, chapter(), "merge (a:city {name: 'bern'}) return a", "(2)")
	gives(t, chapter(), "match (x:city) merge (a:kind {k: 1}) return a", "(-1); (-1) | made 1")
	gives(t, chapter(), "match (a:gone) abort", "")
	fails(t, chapter(), api.ErrAborted, "match (a:town) abort")
}

func TestP1303Example11(t *testing.T) {
	c := compiled(t, "match (a:city) return a")
	v, s := over(t, chapter())
	got, code := c.Run(s, 3)
	same(t, "with fuel 3", told(got, code), "(1); (2)")
	v.asked()
	got, code = c.Run(s, 2)
	same(t, "with fuel 2", told(got, code), "error 131")
	same(t, "with fuel 2: asked", v.asked(), "Nodes city; Node 1")
}

// refused: a query that makes no sense.
func refused(t *testing.T, texts ...string) {
	t.Helper()
	for _, text := range texts {
		c, code := machine.Compile(parsed(t, text))
		if c != nil || code != api.ErrCode {
			t.Errorf("Compile(%q) = %v, %d", text, c, code)
		}
	}
}
