package wire

import (
	"trellis/api"
	"trellis/value"
)

// How counts and bits lie in bytes.
const (
	maxGroups = 10   // groups of seven bits that 64 bits need
	more      = 0x80 // is added to each group but the last
	highest   = 0x80 // the bit of a byte that is the first one
)

// source: a body that is being read. Once it is bad, what is read is nobody's.
type source struct {
	rest []byte // what is not read yet
	bad  bool   // what was read so far is not of the form
}

// isUsedUp: was all of it read, and was it of the form?
func (s *source) isUsedUp() bool {
	return !s.bad && len(s.rest) == 0
}

// bytes: the next n bytes; none, if there are fewer.
func (s *source) bytes(n uint64) []byte {
	if s.bad || n > uint64(len(s.rest)) {
		s.bad = true
		return nil
	}
	b := s.rest[:n]
	s.rest = s.rest[n:]
	return b
}

func (s *source) octet() byte {
	b := s.bytes(1)
	if s.bad {
		return 0
	}
	return b[0]
}

func (s *source) count() uint64 {
	n := uint64(0)
	for first := true; ; first = false {
		group := s.octet()
		if first && group == more || n > (1<<64-1)/more { // a group that is not needed; one that has no room
			s.bad = true
		}
		if s.bad {
			return 0
		}
		n = n*more + uint64(group%more)
		if group < more {
			return n
		}
	}
}

func (s *source) number() int64 {
	n := s.count()
	return int64(n>>1) ^ -int64(n&1)
}

func (s *source) text() string {
	return string(s.bytes(s.count()))
}

func (s *source) bits() []bool {
	n := s.count()
	if n > api.MaxBits {
		s.bad = true
	}
	packed := s.bytes((n + 7) / 8)
	if s.bad {
		return nil
	}
	for i := n; i < uint64(len(packed))*8; i++ {
		if isSet(packed, i) { // what is left over of the last byte
			s.bad = true
		}
	}
	out := make([]bool, n)
	for i := range n {
		out[i] = isSet(packed, i)
	}
	return out
}

// isSet: the i-th bit.
func isSet(packed []byte, i uint64) bool {
	return packed[i/8]&(highest>>(i%8)) != 0
}

func (s *source) value() api.Val {
	v := api.Val{Kind: int(s.octet())}
	switch v.Kind {
	case api.KBool:
		v.A = int64(s.octet())
	case api.KInt, api.KNode, api.KEdge:
		v.A = s.number()
	case api.KCpx:
		v.A = s.number()
		v.B = s.number()
	case api.KStr:
		v.S = s.text()
	}
	if !value.Valid(v) {
		s.bad = true
	}
	return v
}

// getList: a list, each of its elements read by get. It grows as they are read: what a count says is not believed ahead of them.
func getList[T any](s *source, get func(*source) T) []T {
	n := s.count()
	if n > uint64(len(s.rest)) {
		s.bad = true
	}
	var out []T
	for range n {
		if s.bad {
			return nil
		}
		out = append(out, get(s))
	}
	return out
}

func (s *source) request(kind int) api.Request {
	q := api.Request{Kind: kind}
	q.Nums = getList(s, (*source).number)
	q.Text = s.text()
	q.Bits = s.bits()
	return q
}

func (s *source) reply(to int) api.Reply {
	r := api.Reply{To: to}
	r.Code = api.Errno(s.number())
	r.Nums = getList(s, (*source).number)
	r.Texts = getList(s, (*source).text)
	r.Tables = getList(s, (*source).table)
	r.Graph.Nodes = getList(s, (*source).node)
	r.Graph.Edges = getList(s, (*source).edge)
	return r
}

func (s *source) table() (t api.Table) {
	t.Cols = getList(s, (*source).text)
	t.Rows = getList(s, (*source).row)
	t.Made = int(s.number())
	t.Gone = int(s.number())
	t.Set = int(s.number())
	return t
}

func (s *source) row() []api.Val {
	return getList(s, (*source).value)
}

func (s *source) node() (n api.Node) {
	n.Id = s.number()
	n.Label = s.text()
	n.Props = getList(s, (*source).prop)
	return n
}

func (s *source) edge() (e api.Edge) {
	e.Id = s.number()
	e.Type = s.text()
	e.From = s.number()
	e.To = s.number()
	e.Props = getList(s, (*source).prop)
	return e
}

func (s *source) prop() (p api.Prop) {
	p.Key = s.text()
	p.Val = s.value()
	return p
}
