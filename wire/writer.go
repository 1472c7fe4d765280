package wire

import (
	"trellis/api"
	"trellis/value"
)

// writer: a body that is being written.
type writer struct {
	out []byte
	bad bool // it is too long, or has what is no value: there will be no frame of it
}

// frame: the frame of that kind with what was written as its body.
func (w *writer) frame(kind int) ([]byte, api.Errno) {
	if w.bad {
		return nil, api.ErrBody
	}
	return Frame(kind, w.out)
}

// fits: is there room for n more bytes? Without room all is bad, so that what is far too long is never laid together.
func (w *writer) fits(n int) bool {
	if n > api.MaxBody-len(w.out) {
		w.bad = true
	}
	return !w.bad
}

func (w *writer) bytes(b ...byte) {
	if w.fits(len(b)) {
		w.out = append(w.out, b...)
	}
}

func (w *writer) count(n uint64) {
	var groups [maxGroups]byte
	at := maxGroups - 1
	groups[at] = byte(n % more)
	for n /= more; n > 0; n /= more {
		at--
		groups[at] = byte(n%more) + more
	}
	w.bytes(groups[at:]...)
}

// number: the sign goes into the lowest bit, so that numbers near 0 are short on both sides of it.
func (w *writer) number(n int64) {
	w.count(uint64(n)<<1 ^ uint64(n>>63))
}

func (w *writer) text(s string) {
	w.count(uint64(len(s)))
	if w.fits(len(s)) {
		w.out = append(w.out, s...)
	}
}

func (w *writer) bits(of []bool) {
	w.count(uint64(len(of)))
	packed := make([]byte, (len(of)+7)/8)
	for i, bit := range of {
		if bit {
			packed[i/8] |= highest >> (i % 8)
		}
	}
	w.bytes(packed...)
}

func (w *writer) value(v api.Val) {
	if !value.Valid(v) {
		w.bad = true
		return
	}
	w.bytes(byte(v.Kind))
	switch v.Kind {
	case api.KBool:
		w.bytes(byte(v.A))
	case api.KInt, api.KNode, api.KEdge:
		w.number(v.A)
	case api.KCpx:
		w.number(v.A)
		w.number(v.B)
	case api.KStr:
		w.text(v.S)
	}
}

// putList: a list, each of its elements written by put.
func putList[T any](w *writer, of []T, put func(*writer, T)) {
	w.count(uint64(len(of)))
	for _, x := range of {
		if w.bad {
			return
		}
		put(w, x)
	}
}

func (w *writer) request(q api.Request) {
	putList(w, q.Nums, (*writer).number)
	w.text(q.Text)
	w.bits(q.Bits)
}

func (w *writer) reply(r api.Reply) {
	w.number(int64(r.Code))
	putList(w, r.Nums, (*writer).number)
	putList(w, r.Texts, (*writer).text)
	putList(w, r.Tables, (*writer).table)
	putList(w, r.Graph.Nodes, (*writer).node)
	putList(w, r.Graph.Edges, (*writer).edge)
}

func (w *writer) table(t api.Table) {
	putList(w, t.Cols, (*writer).text)
	putList(w, t.Rows, (*writer).row)
	w.number(int64(t.Made))
	w.number(int64(t.Gone))
	w.number(int64(t.Set))
}

func (w *writer) row(of []api.Val) {
	putList(w, of, (*writer).value)
}

func (w *writer) node(n api.Node) {
	w.number(n.Id)
	w.text(n.Label)
	putList(w, n.Props, (*writer).prop)
}

func (w *writer) edge(e api.Edge) {
	w.number(e.Id)
	w.text(e.Type)
	w.number(e.From)
	w.number(e.To)
	putList(w, e.Props, (*writer).prop)
}

func (w *writer) prop(p api.Prop) {
	w.text(p.Key)
	w.value(p.Val)
}
