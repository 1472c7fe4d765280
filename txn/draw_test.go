package txn_test

import (
	"fmt"
	"math/rand"
	"strings"
)

// draw: draws programs that get into each other's way.
type draw struct {
	*rand.Rand
}

func newDraw(seed int64) draw { return draw{rand.New(rand.NewSource(seed))} }

func pick[T any](d draw, of ...T) T { return of[d.Intn(len(of))] }

func (d draw) one(in int) bool { return d.Intn(in) == 0 }

// filledIn: the text with drawn words: L a label, K a key, V a value, T a type.
func (d draw) filledIn(text string) string {
	var out strings.Builder
	for _, r := range text {
		switch r {
		case 'L':
			out.WriteString(pick(d, "n", "n", "m", "o"))
		case 'K':
			out.WriteString(pick(d, "k", "k", "j"))
		case 'V':
			out.WriteString(fmt.Sprint(d.Intn(4)))
		case 'T':
			out.WriteString(pick(d, "r", "r", "s"))
		default:
			out.WriteRune(r)
		}
	}
	return out.String()
}

var reading = []string{
	"match (a:L) return a.K",
	"match (a:L {K: V}) return a, a.j",
	"match (a:L {K: V})-[e:T]->(b) return b.k, e.w",
	"match (a:L)<-[e]-(b:L) return a.k, b.k, type(e)",
	"match (a) return count(*), sum(a.k)",
	"match (a {K: V}) return label(a)",
	"match (a:L), (b:L) return hops(a, b), dist(a, b, T, w) limit 5",
	"match (a:L {K: V})-[*1..2]-(b) return count(b)",
	"optional match (a:L {K: V}) return a, deg(a)",
	"return V",
	"match (a:rule) return a.kind, a.of",
}

var writing = []string{
	"create (:L {K: V})",
	"create (:L {k: V})-[:T {w: V}]->(:L)",
	"match (a:L {K: V}) set a.K = V return a.k",
	"match (a:L) set a.K = coalesce(a.K, V) + 1 return a.K",
	"match (a:L {K: V}), (b:L {K: V}) create (a)-[:T {w: V}]->(b)",
	"match (a:L {K: V}) create (a)-[:T]->(:L {K: V})",
	"match (a:L {K: V}) detach delete a",
	"match (a:L {K: V})-[e]-(b) delete e return b.k",
	"match (a:L)-[e:T]->(b) set e.w = V",
	"merge (a:L {K: V}) set a.j = V return a.k",
	"match (a:L {K: V}) remove a.K",
	"match (a:L) where a.K = V with a limit 1 delete a",
	"match (a) with a skip 12 detach delete a",
	"create (a:L {K: V}) with a match (b:L) where a <> b create (a)-[:T]->(b)",
}

var failing = []string{
	"match (a:L {K: V}) abort",
	"match (a:L) set a.K = a.K / V",
	"match (a:L {K: V}) set a.k = 6 / (a.k - V)",
	"create (:L) abort",
	"match (a:L) return a.k + coalesce(a.j, 'x')",
	"create (:L), (:L), (:L), (:L), (:L), (:L), (:L), (:L), (:L), (:L), (:L), (:L)",
}

var ruling = []string{
	"create (:rule {kind: 'unique', of: 'L', key: 'K'})",
	"create (:rule {kind: 'needs', of: 'L', key: 'K'})",
	"create (:rule {kind: 'only', of: 'L', key: 'K', type: 'int'})",
	"create (:rule {kind: 'link', of: 'T', from: 'L', to: 'L'})",
	"create (:rule {kind: 'most', of: 'T', n: V})",
	"create (:rule {kind: 'order', of: 'T'})",
	"create (:rule {kind: 'order', of: 'T', n: V})",
	"match (a:rule) with a limit 1 delete a",
	"match (a:rule) delete a",
	"match (a:rule {kind: 'most'}) set a.n = V",
	"match (a:rule) set a.n = V",
}

func (d draw) query() string {
	list := reading
	switch n := d.Intn(20); {
	case n < 8:
	case n < 16:
		list = writing
	case n < 18:
		list = failing
	default:
		list = ruling
	}
	return d.filledIn(pick(d, list...))
}

// program: mostly of few queries.
func (d draw) program() string {
	var out []string
	for range pick(d, 1, 1, 2, 2, 3, 5) {
		out = append(out, d.query())
	}
	return strings.Join(out, "; ")
}
