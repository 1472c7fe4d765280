package wire_test

import (
	"math"
	"math/rand"
	"slices"

	"trellis/api"
)

// drawer: draws what can be sent, and what cannot.
type drawer struct{ *rand.Rand }

func newDrawer(seed int64) drawer { return drawer{rand.New(rand.NewSource(seed))} }

// number: any number; most are near 0, or where a group more is needed.
func (d drawer) number() int64 {
	switch d.Intn(5) {
	case 0:
		return int64(d.Intn(7)) - 3
	case 1:
		return (int64(1)<<d.Intn(63) + int64(d.Intn(3)) - 1) * int64(1-2*d.Intn(2))
	case 2:
		return math.MinInt64 + int64(d.Intn(2))
	case 3:
		return math.MaxInt64 - int64(d.Intn(2))
	}
	return int64(d.Uint64())
}

// bytes: n of them, the bytes of marks and of counts among them more often than others.
func (d drawer) bytes(n int) []byte {
	out := make([]byte, n)
	for i := range out {
		out[i] = []byte{0xA5, 0x5A, 0, 1, 2, 0x7F, 0x80, 0x81, 0xFF, byte(d.Intn(256))}[d.Intn(10)]
	}
	return out
}

// text: any bytes, a few as a rule.
func (d drawer) text() string {
	if d.Intn(20) == 0 {
		return string(d.bytes(d.Intn(300)))
	}
	return string(d.bytes(d.Intn(6)))
}

// many: a list, of a few as a rule.
func many[T any](d drawer, one func() T) []T {
	n := d.Intn(4)
	if d.Intn(30) == 0 {
		n = d.Intn(200)
	}
	var out []T
	for range n {
		out = append(out, one())
	}
	return out
}

// val: a value.
func (d drawer) val() api.Val {
	for {
		v := api.Val{Kind: d.Intn(7)}
		switch v.Kind {
		case api.KBool:
			v.A = int64(d.Intn(2))
		case api.KInt, api.KNode, api.KEdge:
			v.A = d.number()
		case api.KCpx:
			v.A, v.B = d.part(), d.part()
		case api.KStr:
			v.S = []string{"", "é", "ulm", "\x00\x7f", "\U0010FFFF", letters(32), letters(d.Intn(33))}[d.Intn(7)]
		}
		if isVal(v) {
			return v
		}
	}
}

// part: a part of a complex number.
func (d drawer) part() int64 {
	return []int64{-33554432, 33554432, 0, 1, -1, int64(d.Intn(67108865)) - 33554432}[d.Intn(6)]
}

func (d drawer) prop() api.Prop { return api.Prop{Key: d.text(), Val: d.val()} }

func (d drawer) table() api.Table {
	row := func() []api.Val { return many(d, d.val) }
	return api.Table{Cols: many(d, d.text), Rows: many(d, row), Made: int(d.number()), Gone: int(d.number()), Set: int(d.number())}
}

func (d drawer) node() api.Node {
	return api.Node{Id: d.number(), Label: d.text(), Props: many(d, d.prop)}
}

func (d drawer) edge() api.Edge {
	return api.Edge{Id: d.number(), Type: d.text(), From: d.number(), To: d.number(), Props: many(d, d.prop)}
}

// reply: one that may be sent.
func (d drawer) reply() api.Reply {
	r := api.Reply{To: d.Intn(13), Code: api.Errno(d.number()), Nums: many(d, d.number)}
	if d.Intn(3) == 0 {
		r.Texts = many(d, d.text)
	}
	if d.Intn(3) == 0 {
		r.Tables = many(d, d.table)
	}
	if d.Intn(3) == 0 {
		r.Graph = api.Graph{Nodes: many(d, d.node), Edges: many(d, d.edge)}
	}
	return r
}

// request: one that may be sent.
func (d drawer) request() api.Request {
	q := api.Request{Kind: 1 + d.Intn(12)}
	for range map[int]int{1: 6, 3: 1, 4: 1, 5: 1, 6: 1, 8: 2, 12: 1}[q.Kind] {
		q.Nums = append(q.Nums, d.number())
	}
	switch q.Kind {
	case api.DoSubmit:
		q.Text = d.text()
	case api.DoCrash:
		q.Bits = make([]bool, d.Intn(30))
		for i := range q.Bits {
			q.Bits[i] = d.Intn(2) == 0
		}
	}
	return q
}

// body: a body of a request or a reply, with its frame's kind.
func (d drawer) body() (int, []byte) {
	if d.Intn(2) == 0 {
		q := d.request()
		return q.Kind, wordsRequest(q)
	}
	r := d.reply()
	return 128 + r.To, wordsReply(r)
}

// spoil: bytes with something changed, taken away or added.
func (d drawer) spoil(b []byte) []byte {
	b = slices.Clone(b)
	at := d.Intn(len(b) + 1)
	switch d.Intn(4) {
	case 0:
		return slices.Insert(b, at, d.bytes(1+d.Intn(3))...)
	case 1:
		return b[:at]
	case 2:
		return slices.Delete(b, at, min(len(b), at+1+d.Intn(3)))
	}
	if at < len(b) {
		b[at] ^= 1 << d.Intn(8)
	}
	return b
}

// piece: something that may come over the wire: a frame, a spoilt one, one in another, a head that tells a lie, garbage.
func (d drawer) piece() []byte {
	kind, body := d.body()
	if len(body) > 60 { // many short pieces say more than a long one
		body = body[:60]
	}
	switch d.Intn(8) {
	case 0, 1:
		return wordsFrame(kind, body)
	case 2:
		return d.spoil(wordsFrame(kind, body))
	case 3:
		return wordsFrame(kind, slices.Concat(d.bytes(d.Intn(4)), wordsFrame(9, body), d.bytes(d.Intn(4))))
	case 4:
		b := wordsFrame(kind, slices.Concat(d.bytes(d.Intn(4)), wordsFrame(9, body)))
		b[d.Intn(12)] ^= 1 << d.Intn(8)
		return b
	case 5:
		length := []int{0, 1, 20, 2097153, 1<<24 - 1}[d.Intn(5)]
		return slices.Concat(wordsHead([]int{0, 9, 255}[d.Intn(3)], length), body)
	case 6:
		return []byte{0xA5, 0x5A, 0xA5}[:1+d.Intn(3)]
	}
	return d.bytes(d.Intn(12))
}

// stream: pieces one behind the other.
func (d drawer) stream() []byte {
	var out []byte
	for range 1 + d.Intn(8) {
		out = append(out, d.piece()...)
	}
	return out
}

// cut: bytes in pieces of any length, pieces without a byte among them.
func (d drawer) cut(b []byte) [][]byte {
	var out [][]byte
	for len(b) > 0 {
		n := min(len(b), d.Intn(20))
		out = append(out, b[:n])
		b = b[n:]
	}
	return out
}
