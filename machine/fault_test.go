package machine_test

import (
	"math"
	"testing"

	"trellis/api"
	"trellis/machine"
	"trellis/space"
)

// touring: queries that together do everything, over the graph bush.
var touring = []string{
	"match (a:x {k: 1})-[e:t]->(b)<-[:u*1..2]-(c) where a.k = 1 return a, e.w, label(c), deg(b, t)",
	"match (a) optional match (a)-[e:u {w: 7}]-(b) with a, count(e) as n, max(label(b)) as l order by n desc, 1 limit 3 where n < 9 return a, n, l",
	"match (a:y), (b:x) return distinct dist(b, a, t, w), hops(a, b), type(null), case when a.k = 1 then b.k else coalesce(a.nix, b.s, 0) end order by 1",
	"match (a:x) create (a)-[r:new {k: a.k}]->(b:made {k: 1})<-[:new]-(a) set b.j = r.k, r.j = 2 remove a.k return b, r, b.j, r.j",
	"match (a:x) merge (m:made {k: a.k, j: 1}) merge (z:z) set z.n = m.k with m, z match (m), (z) return m, z.n",
	"match (a)-[e]->(b) delete e detach delete a return count(*)",
}

// TestP1303Arguments: what cannot be run; the first fault that is named, and nothing is asked.
func TestP1303Arguments(t *testing.T) {
	v, s := over(t, bush())
	var none *machine.Code
	var nowhere *space.Space
	c := compiled(t, "match (a) create (b:x) return a")
	for _, fuel := range []int{-1, math.MinInt, api.MaxFuel + 1, math.MaxInt} {
		got, code := c.Run(s, fuel)
		same(t, "fuel out of its range", code, api.ErrArg)
		same(t, "fuel out of its range", got, api.Table{})
	}
	for _, fuel := range []int{-1, 0, 5, api.MaxFuel + 1} {
		got, code := none.Run(s, fuel)
		same(t, "no code", code, api.ErrArg)
		same(t, "no code", got, api.Table{})
		got, code = c.Run(nowhere, fuel)
		same(t, "no space", code, api.ErrArg)
		same(t, "no space", got, api.Table{})
	}
	same(t, "asked", v.asked(), "")
	same(t, "the mark", s.Mark(), 0)
	same(t, "all fuel", told(c.Run(s, api.MaxFuel)), "(1); (2); (4); (5); (9) | made 5")
}

// TestP1303Fuel: with one less than it needs a query ends at that asking, with ErrFuel; without an asking none is needed.
func TestP1303Fuel(t *testing.T) {
	for _, text := range touring {
		q, c := parsed(t, text), compiled(t, text)
		_, s := over(t, bush())
		want, spent, code := bookRun(q, s, api.MaxFuel)
		same(t, text, code, api.OK)
		for fuel := range spent {
			v, s := over(t, bush())
			w, u := over(t, bush())
			unmoved := still(t, s)
			got, code := c.Run(s, fuel)
			same(t, text, code, api.ErrFuel)
			same(t, text, got, api.Table{})
			unmoved()
			bookRun(q, u, fuel)
			same(t, text+": asked", v.log, w.log)
		}
		_, s = over(t, bush())
		got, code := c.Run(s, spent)
		same(t, text, code, api.OK)
		same(t, text, got, want)
	}
	_, s := over(t, bush())
	same(t, "without an asking", told(compiled(t, "return 1 + 1").Run(s, 0)), "2")
}

// TestP1303FuelAhead: of an asking that would be an error it is asked first whether there is fuel for it.
func TestP1303FuelAhead(t *testing.T) {
	for text, need := range map[string]int{
		"match (a:town) create (b:x {k: a})":                       3,
		"match (a:town) create (a)-[:t {k: a}]->(a)":               3,
		"match (a:town) set a.k = a":                               3,
		"match (a:city {name: 'ulm'}) delete a":                    3,
		"match (a:town) detach delete a set a.k = 1":               4,
		"match (a:town) detach delete a with a return a.k":         4,
		"match (a:town) detach delete a with a match (a) return a": 4,
	} {
		_, s := over(t, chapter())
		_, code := compiled(t, text).Run(s, need-1)
		same(t, text+": one too little", code, api.ErrFuel)
		_, code = compiled(t, text).Run(s, need)
		if code == api.OK || code == api.ErrFuel {
			t.Errorf("%s: enough: %d", text, code)
		}
	}
	_, s := over(t, chapter())
	same(t, "deleted already", told(compiled(t, "match (a:town) detach delete a delete a").Run(s, 3)), "error 131")
	same(t, "deleted already", told(compiled(t, "match (a:town) detach delete a delete a").Run(s, 4)), " | gone 3")
}

// TestP1303GraphFails: whichever asking the graph answers with an error: that is the answer, nothing more is asked, nothing has changed.
func TestP1303GraphFails(t *testing.T) {
	for _, text := range touring {
		c := compiled(t, text)
		v, s := over(t, bush())
		c.Run(s, api.MaxFuel)
		all := v.log
		for at := range all {
			for _, fault := range []api.Errno{api.ErrBlocked, api.ErrPower, 9999, -1} {
				v, s := over(t, bush())
				s.AddNode("old", nil)
				unmoved := still(t, s)
				v.log, v.failAt, v.code = nil, at, fault
				got, code := c.Run(s, api.MaxFuel)
				same(t, text, code, fault)
				same(t, text, got, api.Table{})
				same(t, text+": how much was asked", len(v.log), at+1)
				unmoved()
			}
		}
	}
}

// TestP1307Undone: what earlier calls and earlier runs changed stays, behind a run that fails.
func TestP1307Undone(t *testing.T) {
	_, s := over(t, chapter())
	runs(t, s, "create (a:old {k: 1})", " | made 1")
	s.SetNode(3, "k", num(7))
	unmoved := still(t, s)
	for _, text := range []string{
		"match (a:old) set a.k = 2 create (b:new)-[:t]->(a) abort",
		"match (a:old) detach delete a return a.k",
		"match (a:town) set a.k = 8 remove a.k detach delete a create (:x)-[:t]->(a)",
		"match (a) set a.z = 1 return 1 / (coalesce(a.k, 2) - 1)",
	} {
		if _, code := compiled(t, text).Run(s, api.MaxFuel); code == api.OK {
			t.Errorf("%s: no error", text)
		}
		unmoved()
	}
	runs(t, s, "match (a {k: 7}) create (b:new {k: a.k}) return b", "(-2) | made 1")
	runs(t, s, "match (a:old) return a.k", "1")
}
