package value_test

import (
	"math"
	"math/rand/v2"
	"strings"

	"trellis/api"
)

const (
	least = math.MinInt64
	most  = math.MaxInt64
	part  = 33554432
)

func whole(n int64) api.Val  { return api.Val{Kind: api.KInt, A: n} }
func cpx(a, b int64) api.Val { return api.Val{Kind: api.KCpx, A: a, B: b} }
func str(s string) api.Val   { return api.Val{Kind: api.KStr, S: s} }
func node(n int64) api.Val   { return api.Val{Kind: api.KNode, A: n} }
func edge(n int64) api.Val   { return api.Val{Kind: api.KEdge, A: n} }

func truth(b bool) api.Val {
	if b {
		return api.Val{Kind: api.KBool, A: 1}
	}
	return api.Val{Kind: api.KBool}
}

// null, yes and no are not written to by any test.
var (
	null = api.Val{}
	yes  = truth(true)
	no   = truth(false)
)

var wholes = []int64{
	least, least + 1, -1 << 56, -1<<56 + 1, -1 << 32, -3037000500, -3037000499, -part - 1, -part, -part + 1, -65536, -65535, -257, -256, -255, -7, -3, -2, -1,
	0, 1, 2, 3, 5, 7, 64, 255, 256, 257, 65535, 65536, part - 1, part, part + 1, 3037000499, 3037000500, 1 << 32, 1<<56 - 1, 1 << 56, most - 1, most,
}

var parts = []int64{-part, -part + 1, -23726566, -257, -3, -2, -1, 0, 1, 2, 3, 256, 23726567, part - 1, part}

var texts = []string{
	"", "\x00", "\x00\x00", "\x00\x01", "\x00a", "\x01", "a", "a\x00", "ab", "abc", "b", "bc", "c", "~", "\x7f", "\u0080", "é", "éa", "aé", "\ufffd", "\uffff", "😀", "\U0010ffff",
	"a'\n\\\x7f", "\t\r\n", "\x1f !", `\x41`, `'`, `\`, strings.Repeat("a", 31), strings.Repeat("a", 32), strings.Repeat("\x00", 32), strings.Repeat("é", 16), strings.Repeat("😀", 8), strings.Repeat("\\", 32), strings.Repeat("\x7f", 32),
}

var ids = []int64{least, -65536, -256, -255, -1, 1, 7, 255, 256, 300, 1 << 32, most}

// values: at least one of each kind, and the edges of each.
func values() []api.Val {
	vs := []api.Val{null, no, yes}
	for _, n := range wholes {
		vs = append(vs, whole(n))
	}
	for _, a := range parts {
		for _, b := range parts {
			vs = append(vs, cpx(a, b))
		}
	}
	for _, s := range texts {
		vs = append(vs, str(s))
	}
	for _, n := range ids {
		vs = append(vs, node(n), edge(n))
	}
	return vs
}

// noValues: what is no value, at least one way for each field of each kind.
func noValues() []api.Val {
	return []api.Val{
		{Kind: -1}, {Kind: 7}, {Kind: 9}, {Kind: math.MaxInt}, {Kind: math.MinInt}, {Kind: 7, S: "a"},
		{A: 1}, {B: 1}, {S: "a"},
		{Kind: api.KBool, A: 2}, {Kind: api.KBool, A: -1}, {Kind: api.KBool, A: least}, {Kind: api.KBool, A: 1, B: 1}, {Kind: api.KBool, S: "a"},
		{Kind: api.KInt, A: 1, B: 1}, {Kind: api.KInt, B: -1}, {Kind: api.KInt, S: "1"},
		cpx(part+1, 0), cpx(-part-1, 0), cpx(0, part+1), cpx(0, -part-1), cpx(least, 0), cpx(0, most), {Kind: api.KCpx, S: "a"},
		{Kind: api.KStr, A: 1}, {Kind: api.KStr, B: 1, S: "a"}, str(strings.Repeat("a", 33)), str(strings.Repeat("é", 17)), str(strings.Repeat("a", 31) + "é"),
		str("\xff"), str("a\x80"), str("\xc0\x80"), str("\xe0\x80\x80"), str("\xed\xa0\x80"), str("\xed\xbf\xbf"), str("\xf4\x90\x80\x80"), str("\xc3"), str("\xf0\x9f\x98"),
		node(0), edge(0), {Kind: api.KNode, A: 1, B: 1}, {Kind: api.KNode, A: 1, S: "a"}, {Kind: api.KEdge, A: 1, B: 1}, {Kind: api.KEdge, A: 1, S: "a"},
	}
}

// dice: the same numbers in each run.
func dice() *rand.Rand { return rand.New(rand.NewPCG(1, 2)) }

// thrown: some value of any kind.
func thrown(r *rand.Rand) api.Val {
	switch r.IntN(7) {
	case 0:
		return truth(r.IntN(2) == 1)
	case 1:
		return whole(int64(r.Uint64()) >> r.IntN(64))
	case 2:
		return cpx(r.Int64N(2*part+1)-part, r.Int64N(2*part+1)-part)
	case 3:
		return cpx(r.Int64N(41)-20, r.Int64N(41)-20)
	case 4:
		return str(thrownText(r))
	case 5:
		return node(int64(r.Uint64())>>r.IntN(64) | 1)
	}
	return edge(int64(r.Uint64())>>r.IntN(64) | 1)
}

func thrownText(r *rand.Rand) string {
	letters := []rune("\x00\x01\n\t\r'\\xa0\x1f \x7f\u0080é\ufffd😀")
	s := ""
	for range r.IntN(9) {
		s += string(letters[r.IntN(len(letters))])
	}
	return s
}
