package wire_test

import (
	"fmt"
	"math"
	"testing"

	"trellis/api"
)

// asksFor: a request's frame has the request's kind and that body.
func asksFor(t *testing.T, q api.Request, body ...byte) {
	t.Helper()
	sameBytes(t, "PutRequest("+short(q)+")", asked(t, q), wordsFrame(q.Kind, body))
}

// replies: a reply's frame has its kind and that body.
func replies(t *testing.T, r api.Reply, body ...byte) {
	t.Helper()
	sameBytes(t, "PutReply("+short(r)+")", replied(t, r), wordsFrame(128+r.To, body))
}

// withVal: replies that have a value, one for each place where one can stand.
func withVal(v api.Val) []api.Reply {
	props := []api.Prop{{Key: "k", Val: v}}
	return []api.Reply{
		{Tables: []api.Table{{Rows: [][]api.Val{{}, {{}, v}}}}},
		{Graph: api.Graph{Nodes: []api.Node{{}, {Props: props}}}},
		{Graph: api.Graph{Edges: []api.Edge{{Props: props}}}},
	}
}

func TestP1603EveryKindAndItsNumbers(t *testing.T) {
	for kind := -1; kind <= 14; kind++ {
		for n := range 9 {
			q := api.Request{Kind: kind, Nums: make([]int64, n)}
			switch {
			case kind < 1 || kind > 12:
				notAsked(t, q, api.ErrType)
			case !requestFits(q):
				notAsked(t, q, api.ErrBody)
			default:
				asksFor(t, q, append(append(bin(byte(n)), make([]byte, n)...), 0, 0)...)
			}
		}
	}
}

func TestP1603TheNumbersThatEachKindTakes(t *testing.T) {
	for i, n := range []int{6, 0, 1, 1, 1, 1, 0, 2, 0, 0, 0, 1} {
		asked(t, api.Request{Kind: i + 1, Nums: make([]int64, n)})
	}
}

func TestP1603FarKinds(t *testing.T) {
	for _, kind := range []int{math.MinInt, -1 << 32, -9, 128, 137, 256, 265, 1<<32 + 9, math.MaxInt} {
		notAsked(t, api.Request{Kind: kind}, api.ErrType)
		notReplied(t, api.Reply{To: kind}, api.ErrType)
	}
}

func TestP1603TextForSubmitAlone(t *testing.T) {
	for kind := 1; kind <= 12; kind++ {
		for n := range 3 {
			q := api.Request{Kind: kind, Nums: make([]int64, n), Text: "x"}
			if kind == api.DoSubmit && n == 1 {
				asksFor(t, q, 1, 0, 1, 'x', 0)
			} else {
				notAsked(t, q, api.ErrBody)
			}
		}
	}
	asksFor(t, api.Request{Kind: api.DoSubmit, Nums: nums(5)}, 1, 10, 0, 0)
	asksFor(t, api.Request{Kind: api.DoSubmit, Nums: nums(5), Text: "\xff\x00"}, 1, 10, 2, 255, 0, 0) // any bytes
}

func TestP1603BitsForCrashAlone(t *testing.T) {
	for kind := 1; kind <= 12; kind++ {
		for n := range 3 {
			q := api.Request{Kind: kind, Nums: make([]int64, n), Bits: []bool{false}}
			if kind == api.DoCrash && n == 0 {
				asksFor(t, q, 0, 0, 1, 0)
			} else {
				notAsked(t, q, api.ErrBody)
			}
		}
	}
	notAsked(t, api.Request{Kind: api.DoCrash, Text: "x", Bits: []bool{true}}, api.ErrBody)
	notAsked(t, api.Request{Kind: api.DoSubmit, Nums: nums(1), Text: "x", Bits: []bool{true}}, api.ErrBody)
}

func TestP1603HowBitsLie(t *testing.T) {
	for n := range 40 {
		for at := range n {
			q := api.Request{Kind: api.DoCrash, Bits: make([]bool, n)}
			q.Bits[at] = true
			body := append(bin(0, 0, byte(n)), make([]byte, (n+7)/8)...)
			body[3+at/8] = 1 << (7 - at%8)
			asksFor(t, q, body...)
		}
	}
}

func TestP1603AsManyBitsAsMayBe(t *testing.T) {
	for _, n := range []int{127, 128, 4088, 4095, 4096} {
		q := api.Request{Kind: api.DoCrash, Bits: make([]bool, n)}
		for i := range q.Bits {
			q.Bits[i] = i%3 != 1
		}
		asksFor(t, q, wordsRequest(q)...)
	}
	for _, n := range []int{4097, 4098, 8192, 1 << 24, 8*api.MaxBody + 8} {
		notAsked(t, api.Request{Kind: api.DoCrash, Bits: make([]bool, n)}, api.ErrBody)
	}
}

func TestP1603Numbers(t *testing.T) {
	for n, want := range map[int64]string{
		0: "00", 1: "02", -1: "01", 63: "7e", -63: "7d", -64: "7f", 64: "81 00", -65: "81 01", 8191: "ff 7e", -8192: "ff 7f", 8192: "81 80 00",
		math.MaxInt64: "81 ff ff ff ff ff ff ff ff 7e", math.MinInt64: "81 ff ff ff ff ff ff ff ff 7f",
	} {
		b := asked(t, api.Request{Kind: api.DoPick, Nums: nums(n)})
		same(t, fmt.Sprintf("the number %d", n), fmt.Sprintf("% x", b[9:len(b)-6]), want)
	}
	for i := range 64 {
		for _, n := range nums(1<<i, 1<<i-1, 1<<i+1, -1<<i, -1<<i-1, -1<<i+1) {
			asksFor(t, api.Request{Kind: api.DoPick, Nums: nums(n)}, append(append(bin(1), wordsSigned(n)...), 0, 0)...)
		}
	}
}

func TestP1603LongestRequest(t *testing.T) {
	q := api.Request{Kind: api.DoSubmit, Nums: nums(1), Text: letters(2097146)}
	b := asked(t, q)
	same(t, "how long it is", len(b), 12+api.MaxBody)
	sameBytes(t, "the longest request", b, wordsFrame(3, wordsRequest(q)))
	for _, n := range []int{2097147, 2097152, 2097153, 1 << 22, 1 << 28} {
		notAsked(t, api.Request{Kind: api.DoSubmit, Nums: nums(1), Text: letters(n)}, api.ErrBody)
	}
	notAsked(t, api.Request{Kind: api.DoSubmit, Nums: nums(64), Text: letters(2097146)}, api.ErrBody) // a number of one byte more
}

func TestP1603EveryReply(t *testing.T) {
	for to := -1; to <= 14; to++ {
		if to < 0 || to > 12 {
			notReplied(t, api.Reply{To: to}, api.ErrType)
			continue
		}
		replies(t, api.Reply{To: to}, 0, 0, 0, 0, 0, 0)
	}
}

func TestP1603AllPartsOfAReply(t *testing.T) {
	props := []api.Prop{{Key: "k", Val: api.Val{Kind: api.KBool, A: 1}}, {}}
	r := api.Reply{To: 8, Code: 163, Nums: nums(-1, 2), Texts: []string{"ab", ""},
		Tables: []api.Table{{Cols: []string{"c"}, Rows: [][]api.Val{{}, {{Kind: api.KInt, A: 5}}}, Made: 1, Gone: -2, Set: 3}, {}},
		Graph: api.Graph{
			Nodes: []api.Node{{Id: 4, Label: "n", Props: props}},
			Edges: []api.Edge{{Id: 5, Type: "tt", From: 6, To: -7, Props: props[:1]}},
		}}
	replies(t, r,
		0x82, 0x46,
		2, 1, 4,
		2, 2, 'a', 'b', 0,
		2, 1, 1, 'c', 2, 0, 1, 2, 10, 2, 3, 6, 0, 0, 0, 0, 0,
		1, 8, 1, 'n', 2, 1, 'k', 1, 1, 0, 0,
		1, 10, 2, 't', 't', 12, 13, 1, 1, 'k', 1, 1)
}

func TestP1603EveryKindOfValue(t *testing.T) {
	for _, c := range []struct {
		v    api.Val
		want []byte
	}{
		{api.Val{}, bin(0)},
		{api.Val{Kind: api.KBool}, bin(1, 0)},
		{api.Val{Kind: api.KBool, A: 1}, bin(1, 1)},
		{api.Val{Kind: api.KInt, A: 300}, bin(2, 0x84, 0x58)},
		{api.Val{Kind: api.KInt, A: math.MinInt64}, bin(2, 0x81, 255, 255, 255, 255, 255, 255, 255, 255, 127)},
		{api.Val{Kind: api.KCpx, A: -1, B: 2}, bin(3, 1, 4)},
		{api.Val{Kind: api.KCpx, A: 33554432, B: -33554432}, bin(3, 0xA0, 0x80, 0x80, 0, 0x9F, 255, 255, 127)},
		{api.Val{Kind: api.KStr}, bin(4, 0)},
		{api.Val{Kind: api.KStr, S: "é"}, bin(4, 2, 0xC3, 0xA9)},
		{api.Val{Kind: api.KNode, A: -1}, bin(5, 1)},
		{api.Val{Kind: api.KEdge, A: 7}, bin(6, 14)},
	} {
		for _, r := range withVal(c.v) {
			sameBytes(t, short(r), replied(t, r), wordsFrame(128, wordsReply(r)))
		}
		row := append(append(bin(0, 0, 0, 1, 0, 1, 1), c.want...), 0, 0, 0, 0, 0)
		replies(t, api.Reply{Tables: []api.Table{{Rows: [][]api.Val{{c.v}}}}}, row...)
	}
}

// noVals: what is no value.
func noVals() []api.Val {
	return []api.Val{
		{Kind: 7}, {Kind: -1}, {Kind: 256}, {Kind: 258}, {Kind: math.MinInt}, {Kind: math.MaxInt},
		{A: 1}, {B: 1}, {S: "x"},
		{Kind: api.KBool, A: 2}, {Kind: api.KBool, A: -1}, {Kind: api.KBool, A: 256}, {Kind: api.KBool, B: 1}, {Kind: api.KBool, S: "x"},
		{Kind: api.KInt, B: 1}, {Kind: api.KInt, S: "x"},
		{Kind: api.KCpx, A: 33554433}, {Kind: api.KCpx, B: -33554433}, {Kind: api.KCpx, S: "x"},
		{Kind: api.KStr, S: "\xff"}, {Kind: api.KStr, S: letters(33)}, {Kind: api.KStr, A: 1}, {Kind: api.KStr, B: 1},
		{Kind: api.KNode}, {Kind: api.KNode, A: 1, B: 1}, {Kind: api.KNode, A: 1, S: "x"},
		{Kind: api.KEdge}, {Kind: api.KEdge, A: 1, B: 1}, {Kind: api.KEdge, A: 1, S: "x"},
	}
}

func TestP1603WhatIsNoValue(t *testing.T) {
	for _, v := range noVals() {
		for _, r := range withVal(v) {
			notReplied(t, r, api.ErrBody)
			r.To = 13
			notReplied(t, r, api.ErrType)
		}
	}
}

func TestP1603WhatIsNotLookedAt(t *testing.T) {
	r := api.Reply{To: 12, Code: -5, Texts: []string{"\xff", letters(1000)},
		Tables: []api.Table{{Cols: []string{"", "", "a b"}, Rows: [][]api.Val{{}, {{}, {}, {}, {}}}, Made: -1, Gone: math.MinInt, Set: math.MaxInt}},
		Graph: api.Graph{
			Nodes: []api.Node{{Id: -5, Label: "NO NAME", Props: []api.Prop{{Key: "b"}, {Key: "a"}, {Key: "a"}, {Key: letters(50)}}}, {Id: -5}},
			Edges: []api.Edge{{}, {Id: 1, From: 99, To: -99}},
		}}
	replies(t, r, wordsReply(r)...)
}

func TestP1603AsManyNumbersAsMayBe(t *testing.T) {
	r := api.Reply{To: 11, Nums: make([]int64, api.MaxNums)}
	replies(t, r, wordsReply(r)...)
	for _, n := range []int{api.MaxNums + 1, api.MaxNums + 2, 1 << 20, 1 << 22} {
		notReplied(t, api.Reply{To: 11, Nums: make([]int64, n)}, api.ErrBody)
		notReplied(t, api.Reply{To: 13, Nums: make([]int64, n)}, api.ErrType)
	}
}

// longReplies: for each of a reply's lists how one is made that has so many elements of one byte, or so many bytes, in it.
func longReplies() []func(n int) api.Reply {
	table := func(of api.Table) api.Reply { return api.Reply{Tables: []api.Table{of}} }
	edge := func(of api.Edge) api.Reply { return api.Reply{Graph: api.Graph{Edges: []api.Edge{of}}} }
	return []func(n int) api.Reply{
		func(n int) api.Reply { return api.Reply{Texts: []string{letters(n)}} },
		func(n int) api.Reply { return api.Reply{Texts: make([]string, n)} },
		func(n int) api.Reply { return table(api.Table{Cols: make([]string, n)}) },
		func(n int) api.Reply { return table(api.Table{Cols: []string{letters(n)}}) },
		func(n int) api.Reply { return table(api.Table{Rows: make([][]api.Val, n)}) },
		func(n int) api.Reply { return table(api.Table{Rows: [][]api.Val{make([]api.Val, n)}}) },
		func(n int) api.Reply { return api.Reply{Graph: api.Graph{Nodes: []api.Node{{Label: letters(n)}}}} },
		func(n int) api.Reply { return edge(api.Edge{Type: letters(n)}) },
		func(n int) api.Reply { return edge(api.Edge{Props: []api.Prop{{Key: letters(n)}}}) },
	}
}

func TestP1603LongestReplies(t *testing.T) {
	const fewer = 20000 // its count has as many groups as that of the most has
	for i, long := range longReplies() {
		n := fewer + api.MaxBody - len(wordsReply(long(fewer)))
		r := long(n)
		same(t, fmt.Sprintf("how long the reply %d is", i), len(replied(t, r)), 12+api.MaxBody)
		r.Nums = nums(0) // a byte more, ahead of all the others
		notReplied(t, r, api.ErrBody)
		notReplied(t, long(n+1), api.ErrBody)
	}
}

func TestP1603FarTooLong(t *testing.T) {
	for _, long := range longReplies() {
		for _, n := range []int{api.MaxBody, api.MaxBody + 1, 1 << 22} {
			notReplied(t, long(n), api.ErrBody)
		}
	}
	many, one := make([]string, 1<<16), letters(1<<20) // 64 GiB, if they were laid together
	for i := range many {
		many[i] = one
	}
	notReplied(t, api.Reply{Texts: many}, api.ErrBody)
	notReplied(t, api.Reply{Tables: []api.Table{{Cols: many}}}, api.ErrBody)
}

func TestP1603TooLongByItsLastByte(t *testing.T) {
	edge := func(n int) api.Reply { // its end is the value of a property
		return api.Reply{Texts: []string{letters(n)}, Graph: api.Graph{Edges: []api.Edge{{Props: []api.Prop{{Key: "k", Val: api.Val{Kind: api.KBool, A: 1}}}}}}}
	}
	const near = api.MaxBody - 100
	n := near + api.MaxBody - len(wordsReply(edge(near)))
	same(t, "how long it is", len(replied(t, edge(n))), 12+api.MaxBody)
	notReplied(t, edge(n+1), api.ErrBody)
}

func TestP1603DrawnRequestsAndReplies(t *testing.T) {
	d := newDrawer(3)
	for range 6000 {
		q, r := d.request(), d.reply()
		sameBytes(t, short(q), asked(t, q), wordsFrame(q.Kind, wordsRequest(q)))
		sameBytes(t, short(r), replied(t, r), wordsFrame(128+r.To, wordsReply(r)))
	}
}
