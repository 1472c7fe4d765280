package wire_test

import (
	"bytes"
	"hash/adler32"
	"math/big"
	"slices"
	"unicode/utf8"

	"trellis/api"
)

// This file reckons frames and bodies a second time, by the chapter's words and with great numbers, however slowly.

// wordsHead: the first eight bytes of a frame.
func wordsHead(kind, length int) []byte {
	over := bin(byte(kind), byte(length/65536), byte(length/256%256), byte(length%256))
	c, d := 0, 0
	for _, x := range over {
		c += int(x)
		d += c
	}
	return slices.Concat(bin(0xA5, 0x5A), over, bin(byte(d%255), byte(c%255)))
}

// wordsFrame: a frame.
func wordsFrame(kind int, body []byte) []byte {
	b := slices.Concat(wordsHead(kind, len(body)), body)
	sum := adler32.Checksum(b[2:])
	return append(b, byte(sum>>24), byte(sum>>16), byte(sum>>8), byte(sum))
}

// wordsCount: a count.
func wordsCount(n *big.Int) []byte {
	groups := n.Text(2)
	for len(groups)%7 != 0 {
		groups = "0" + groups
	}
	var out []byte
	for i := 0; i < len(groups); i += 7 {
		group, _ := new(big.Int).SetString(groups[i:i+7], 2)
		out = append(out, byte(group.Int64())+128)
	}
	out[len(out)-1] -= 128
	return out
}

// wordsSigned: a signed number.
func wordsSigned(n int64) []byte {
	m := new(big.Int).Mul(big.NewInt(n), big.NewInt(2))
	if n < 0 {
		m.Neg(m).Sub(m, big.NewInt(1))
	}
	return wordsCount(m)
}

func wordsText(s string) []byte {
	return slices.Concat(wordsCount(big.NewInt(int64(len(s)))), []byte(s))
}

func wordsList[T any](of []T, one func(T) []byte) []byte {
	parts := [][]byte{wordsCount(big.NewInt(int64(len(of))))}
	for _, x := range of {
		parts = append(parts, one(x))
	}
	return slices.Concat(parts...)
}

func wordsBits(of []bool) []byte {
	out := wordsCount(big.NewInt(int64(len(of))))
	for len(of) > 0 {
		eight := make([]bool, 8)
		of = of[copy(eight, of):]
		n := byte(0)
		for _, bit := range eight {
			n *= 2
			if bit {
				n++
			}
		}
		out = append(out, n)
	}
	return out
}

func wordsVal(v api.Val) []byte {
	kind := bin(byte(v.Kind))
	switch v.Kind {
	case api.KBool:
		return append(kind, byte(v.A))
	case api.KInt, api.KNode, api.KEdge:
		return append(kind, wordsSigned(v.A)...)
	case api.KCpx:
		return slices.Concat(kind, wordsSigned(v.A), wordsSigned(v.B))
	case api.KStr:
		return append(kind, wordsText(v.S)...)
	}
	return kind
}

func wordsRow(of []api.Val) []byte { return wordsList(of, wordsVal) }

func wordsProp(p api.Prop) []byte { return append(wordsText(p.Key), wordsVal(p.Val)...) }

func wordsTable(t api.Table) []byte {
	return slices.Concat(wordsList(t.Cols, wordsText), wordsList(t.Rows, wordsRow), wordsSigned(int64(t.Made)), wordsSigned(int64(t.Gone)), wordsSigned(int64(t.Set)))
}

func wordsNode(n api.Node) []byte {
	return slices.Concat(wordsSigned(n.Id), wordsText(n.Label), wordsList(n.Props, wordsProp))
}

func wordsEdge(e api.Edge) []byte {
	return slices.Concat(wordsSigned(e.Id), wordsText(e.Type), wordsSigned(e.From), wordsSigned(e.To), wordsList(e.Props, wordsProp))
}

// wordsRequest: a request's body.
func wordsRequest(q api.Request) []byte {
	return slices.Concat(wordsList(q.Nums, wordsSigned), wordsText(q.Text), wordsBits(q.Bits))
}

// wordsReply: a reply's body.
func wordsReply(r api.Reply) []byte {
	return slices.Concat(wordsSigned(int64(r.Code)), wordsList(r.Nums, wordsSigned), wordsList(r.Texts, wordsText), wordsList(r.Tables, wordsTable),
		wordsList(r.Graph.Nodes, wordsNode), wordsList(r.Graph.Edges, wordsEdge))
}

// isVal: is v a value, by the table of the chapter of values?
func isVal(v api.Val) bool {
	is := api.Val{Kind: v.Kind}
	ok := true
	switch v.Kind {
	case api.KNull:
	case api.KBool:
		is.A, ok = v.A, v.A == 0 || v.A == 1
	case api.KInt:
		is.A = v.A
	case api.KCpx:
		is.A, is.B, ok = v.A, v.B, max(v.A, v.B) <= 33554432 && min(v.A, v.B) >= -33554432
	case api.KStr:
		is.S, ok = v.S, len(v.S) <= 32 && utf8.ValidString(v.S)
	case api.KNode, api.KEdge:
		is.A, ok = v.A, v.A != 0
	default:
		ok = false
	}
	return ok && is == v
}

// requestFits: may a request of a kind that there is be sent?
func requestFits(q api.Request) bool {
	takes := map[int]int{1: 6, 3: 1, 4: 1, 5: 1, 6: 1, 8: 2, 12: 1}[q.Kind]
	return len(q.Nums) == takes && (q.Kind == 3 || q.Text == "") && (q.Kind == 7 || len(q.Bits) == 0) && len(q.Bits) <= 4096 && len(wordsRequest(q)) <= 2097152
}

// propsFit: is every property's value one?
func propsFit(of []api.Prop) bool {
	return !slices.ContainsFunc(of, func(p api.Prop) bool { return !isVal(p.Val) })
}

// replyFits: may a reply to what there is be sent?
func replyFits(r api.Reply) bool {
	ok := len(r.Nums) <= 4096 && len(wordsReply(r)) <= 2097152
	for _, table := range r.Tables {
		for _, row := range table.Rows {
			for _, v := range row {
				ok = ok && isVal(v)
			}
		}
	}
	for _, n := range r.Graph.Nodes {
		ok = ok && propsFit(n.Props)
	}
	for _, e := range r.Graph.Edges {
		ok = ok && propsFit(e.Props)
	}
	return ok
}

// loose: reads a body with no care for its form; it panics where there is nothing more to read.
type loose struct{ rest []byte }

func (l *loose) byte() byte {
	b := l.rest[0]
	l.rest = l.rest[1:]
	return b
}

func (l *loose) count() *big.Int {
	n := new(big.Int)
	for {
		b := l.byte()
		n.Lsh(n, 7).Add(n, big.NewInt(int64(b%128)))
		if b < 128 {
			return n
		}
	}
}

// size: a count that is no more than the bytes behind it.
func (l *loose) size() int {
	n := l.count()
	if n.Cmp(big.NewInt(int64(len(l.rest)))) > 0 {
		panic("more than there is")
	}
	return int(n.Int64())
}

func (l *loose) signed() int64 {
	n := l.count()
	half := new(big.Int).Rsh(n, 1)
	if n.Bit(0) == 1 {
		half.Add(half, big.NewInt(1)).Neg(half)
	}
	if !half.IsInt64() {
		panic("no int64")
	}
	return half.Int64()
}

func (l *loose) text() string {
	n := l.size()
	s := string(l.rest[:n])
	l.rest = l.rest[n:]
	return s
}

func looseList[T any](l *loose, one func() T) []T {
	var out []T
	for range l.size() {
		out = append(out, one())
	}
	return out
}

func (l *loose) bits() []bool {
	n := l.count()
	var out []bool
	if n.Cmp(big.NewInt(int64(8*len(l.rest)))) > 0 {
		panic("more than there is")
	}
	b := byte(0)
	for i := range int(n.Int64()) {
		if i%8 == 0 {
			b = l.byte()
		}
		out = append(out, b >= 128)
		b *= 2
	}
	return out
}

func (l *loose) val() api.Val {
	v := api.Val{Kind: int(l.byte())}
	switch v.Kind {
	case api.KBool:
		v.A = int64(l.byte())
	case api.KInt, api.KNode, api.KEdge:
		v.A = l.signed()
	case api.KCpx:
		v.A = l.signed()
		v.B = l.signed()
	case api.KStr:
		v.S = l.text()
	}
	return v
}

func (l *loose) prop() api.Prop {
	key := l.text()
	return api.Prop{Key: key, Val: l.val()}
}

func (l *loose) table() api.Table {
	var out api.Table
	out.Cols = looseList(l, l.text)
	out.Rows = looseList(l, func() []api.Val { return looseList(l, l.val) })
	out.Made, out.Gone, out.Set = int(l.signed()), int(l.signed()), int(l.signed())
	return out
}

func (l *loose) node() api.Node {
	id, label := l.signed(), l.text()
	return api.Node{Id: id, Label: label, Props: looseList(l, l.prop)}
}

func (l *loose) edge() api.Edge {
	out := api.Edge{Id: l.signed(), Type: l.text()}
	out.From, out.To = l.signed(), l.signed()
	out.Props = looseList(l, l.prop)
	return out
}

// wordsGetRequest: the request whose body is just that, if there is one.
func wordsGetRequest(kind int, body []byte) (q api.Request, ok bool) {
	defer func() {
		if recover() != nil {
			q, ok = api.Request{}, false
		}
	}()
	l := loose{body}
	q = api.Request{Kind: kind, Nums: looseList(&l, l.signed)}
	q.Text = l.text()
	q.Bits = l.bits()
	if !requestFits(q) || !bytes.Equal(wordsRequest(q), body) {
		return api.Request{}, false
	}
	return q, true
}

// wordsGetReply: the reply whose body is just that, if there is one.
func wordsGetReply(to int, body []byte) (r api.Reply, ok bool) {
	defer func() {
		if recover() != nil {
			r, ok = api.Reply{}, false
		}
	}()
	l := loose{body}
	r = api.Reply{To: to, Code: api.Errno(l.signed())}
	r.Nums = looseList(&l, l.signed)
	r.Texts = looseList(&l, l.text)
	r.Tables = looseList(&l, l.table)
	r.Graph.Nodes = looseList(&l, l.node)
	r.Graph.Edges = looseList(&l, l.edge)
	if !replyFits(r) || !bytes.Equal(wordsReply(r), body) {
		return api.Reply{}, false
	}
	return r, true
}

// wordsReader: a reader, by the words of P1605.
type wordsReader struct {
	bytes []byte
	lost  bool
}

// use: the first n bytes, which are used up by it.
func (r *wordsReader) use(n int) []byte {
	b := slices.Clone(r.bytes[:n])
	r.bytes = r.bytes[n:]
	return b
}

// bad: the first byte is bad.
func (r *wordsReader) bad() []api.Frame {
	first := r.use(1)
	if r.lost {
		return nil
	}
	r.lost = true
	return []api.Frame{{Code: api.ErrFrame, Body: first}}
}

// look: looks at the first of the bytes once; what is given, and whether it stops.
func (r *wordsReader) look() ([]api.Frame, bool) {
	b := r.bytes
	switch {
	case len(b) == 0:
		return nil, true
	case b[0] != 0xA5:
		return r.bad(), false
	case len(b) >= 2 && b[1] != 0x5A:
		return r.bad(), false
	case len(b) < 8:
		return nil, true
	}
	length := int(b[3])*65536 + int(b[4])*256 + int(b[5])
	if b[2] == 0 || length > 2097152 || !bytes.Equal(b[:8], wordsHead(int(b[2]), length)) {
		return r.bad(), false
	}
	r.lost = false
	if len(b) < 12+length {
		return nil, true
	}
	all := r.use(12 + length)
	body := all[8 : 8+length]
	if !bytes.Equal(all, wordsFrame(int(all[2]), body)) {
		return []api.Frame{{Code: api.ErrSum, Body: all}}, false
	}
	return []api.Frame{{Kind: int(all[2]), Body: body}}, false
}

func (r *wordsReader) feed(b []byte) []api.Frame {
	r.bytes = slices.Concat(r.bytes, b)
	var out []api.Frame
	for {
		given, stops := r.look()
		out = append(out, given...)
		if stops {
			return out
		}
	}
}
