package server_test

import (
	"fmt"
	"math"
	"math/rand"
	"strings"

	"trellis/api"
)

// draw: draws programs that get into each other's way, and requests.
type draw struct {
	*rand.Rand
}

func newDraw(seed int64) draw { return draw{rand.New(rand.NewSource(seed))} }

func pick[T any](d draw, of ...T) T { return of[d.Intn(len(of))] }

func (d draw) one(in int) bool { return d.Intn(in) == 0 }

// filledIn: the text with drawn words: L a label, K a key, V a value, N a whole number, T a type.
func (d draw) filledIn(text string) string {
	var out strings.Builder
	for _, r := range text {
		switch r {
		case 'L':
			out.WriteString(pick(d, "n", "n", "m", "o"))
		case 'K':
			out.WriteString(pick(d, "k", "k", "j"))
		case 'V':
			out.WriteString(pick(d, "0", "1", "2", "3", "1", "2", "2i", "'x'", "true", "-1"))
		case 'N':
			out.WriteString(fmt.Sprint(d.Intn(4)))
		case 'T':
			out.WriteString(pick(d, "r", "r", "s"))
		default:
			out.WriteRune(r)
		}
	}
	return out.String()
}

var reading = []string{
	"match (a:L) return a.K",
	"match (a:L {K: V}) return a, a.j",
	"match (a:L {K: V})-[e:T]->(b) return b.k, e.w",
	"match (a:L)<-[e]-(b:L) return a.k, b.k, type(e)",
	"match (a) return count(*), min(a.k), max(a.j)",
	"match (a {K: V}) return label(a)",
	"match (a:L), (b:L) return hops(a, b), dist(a, b, T, w) limit 5",
	"match (a:L {K: V})-[*1..2]-(b) return count(b)",
	"optional match (a:L {K: V}) return a, deg(a)",
	"match (a:L) with a.K as k, count(*) as c where c > 1 return k, c order by k desc",
	"match (a:L) return distinct a.K order by 1 skip 1 limit 2",
	"return V",
	"match (a:rule) return a.kind, a.of",
}

var writing = []string{
	"create (:L {K: V})",
	"create (:L {k: V})-[:T {w: N}]->(:L)",
	"create (a:L {k: V}) return a, a.k",
	"match (a:L {K: V}) set a.K = V return a.k",
	"match (a:L) set a.K = coalesce(a.K, N) + 1 return a.K",
	"match (a:L {K: V}), (b:L {K: V}) create (a)-[:T {w: N}]->(b)",
	"match (a:L {K: V}) create (a)-[:T]->(:L {K: V})",
	"match (a:L {K: V}) detach delete a",
	"match (a:L {K: V})-[e]-(b) delete e return b.k",
	"match (a:L)-[e:T]->(b) set e.w = N",
	"merge (a:L {K: V}) set a.j = V return a.k",
	"match (a:L {K: V}) remove a.K",
	"match (a:L) where a.K = V with a limit 1 delete a",
	"match (a) with a skip 9 detach delete a",
	"create (a:L {K: V}) with a match (b:L) where a <> b create (a)-[:T]->(b)",
}

var failing = []string{
	"match (a:L {K: V}) abort",
	"match (a:L) set a.K = a.K / N",
	"match (a:L {K: V}) set a.k = 6 / (a.k - N)",
	"create (:L) abort",
	"match (a:L) return a.k + coalesce(a.j, 'x')",
	"create (:L), (:L), (:L), (:L), (:L), (:L), (:L), (:L), (:L), (:L), (:L), (:L)",
	"match (a:L) create (:L {k: V}), (:L {k: V})",
}

var ruling = []string{
	"create (:rule {kind: 'unique', of: 'L', key: 'K'})",
	"create (:rule {kind: 'needs', of: 'L', key: 'K'})",
	"create (:rule {kind: 'only', of: 'L', key: 'K', type: 'int'})",
	"create (:rule {kind: 'link', of: 'T', from: 'L', to: 'L'})",
	"create (:rule {kind: 'most', of: 'T', n: N})",
	"create (:rule {kind: 'order', of: 'T'})",
	"create (:rule {kind: 'order', of: 'T', n: N})",
	"match (a:rule) with a limit 1 delete a",
	"match (a:rule) delete a",
	"match (a:rule {kind: 'most'}) set a.n = N",
	"match (a:rule) set a.n = N",
}

var senseless = []string{
	"", "create (a:", "return x", "return 1; return 1 +", "match (a) where 1 return a", "match (a)-[a]->() return 1",
	"return 'x", "create (a:rule {kind: 'order'}); return a.k", "return 1;;", "abort; return abcdefghi",
}

func (d draw) query() string {
	list := reading
	switch n := d.Intn(20); {
	case n < 7:
	case n < 15:
		list = writing
	case n < 17:
		list = failing
	default:
		list = ruling
	}
	return d.filledIn(pick(d, list...))
}

// program: mostly of few queries.
func (d draw) program() string {
	var out []string
	for range pick(d, 1, 1, 2, 2, 3, 5) {
		out = append(out, d.query())
	}
	return strings.Join(out, "; ")
}

// id: a number, mostly one of few.
func (d draw) id() int64 {
	if d.one(30) {
		return pick[int64](d, 0, -1, -1<<40, 1<<30, 1<<30+1, 1<<32+3, math.MinInt64, math.MaxInt64)
	}
	return 1 + d.Int63n(9)
}

// count: a number of picks or operations.
func (d draw) count() int64 {
	if d.one(20) {
		return pick[int64](d, -1, api.MaxRun, api.MaxRun+1, math.MinInt64, math.MaxInt64)
	}
	return d.Int63n(14)
}

// bits: which writes a crash keeps.
func (d draw) bits() []bool {
	out := make([]bool, d.Intn(40))
	most := d.Intn(5)
	for i := range out {
		out[i] = most > 0 && (most == 4 || d.one(most))
	}
	return out
}

// sizes: the numbers of a DoFormat, mostly of those that fit.
func (d draw) sizes() []int64 {
	if d.one(5) {
		return []int64{d.Int63n(3), d.Int63n(100), d.Int63n(100), d.Int63n(100), d.Int63n(70), d.Int63n(20)}
	}
	return []int64{1 + d.Int63n(3), 1 + d.Int63n(3), 1 + d.Int63n(8), 1 + d.Int63n(10), 1 + d.Int63n(6), 1 + d.Int63n(5)}
}

// request: any request; those that take it down or make it new are rare.
func (d draw) request() api.Request {
	switch n := d.Intn(200); {
	case n < 2:
		return api.Request{Kind: api.DoFormat, Nums: d.sizes()}
	case n < 10:
		return api.Request{Kind: api.DoOpen}
	case n < 60:
		text := d.program()
		if d.one(10) {
			text = pick(d, senseless...)
		}
		return api.Request{Kind: api.DoSubmit, Nums: []int64{d.id()}, Text: text}
	case n < 120:
		return api.Request{Kind: api.DoPick, Nums: []int64{pick(d, 0, d.id(), d.id(), d.id(), d.id(), d.id())}}
	case n < 130:
		return api.Request{Kind: api.DoRun, Nums: []int64{d.count()}}
	case n < 133:
		return api.Request{Kind: api.DoCut, Nums: []int64{d.count()}}
	case n < 136:
		return api.Request{Kind: api.DoCrash, Bits: d.bits()}
	case n < 156:
		return api.Request{Kind: api.DoResult, Nums: []int64{d.id(), pick[int64](d, -1, -1, 0, 0, 1, 2, 9, -2)}}
	case n < 163:
		return api.Request{Kind: api.DoStatus}
	case n < 170:
		return api.Request{Kind: api.DoDump}
	case n < 177:
		return api.Request{Kind: api.DoWaits}
	}
	return api.Request{Kind: api.DoForget, Nums: []int64{d.id()}}
}
