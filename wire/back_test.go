package wire_test

import (
	"math"
	"slices"
	"testing"

	"trellis/api"
	"trellis/wire"
)

// message: a request or a reply, and its frame.
type message struct {
	asks    bool
	request api.Request
	reply   api.Reply
	bytes   []byte
}

// message: one that may be sent.
func (d drawer) message(t *testing.T) message {
	t.Helper()
	m := message{asks: d.Intn(2) == 0, request: d.request(), reply: d.reply()}
	if m.asks {
		m.bytes = asked(t, m.request)
	} else {
		m.bytes = replied(t, m.reply)
	}
	return m
}

// backs: a frame that was given is that message again.
func backs(t *testing.T, f api.Frame, m message) {
	t.Helper()
	if m.asks {
		q, code := wire.GetRequest(f)
		same(t, "GetRequest", []any{q, code}, []any{m.request, api.OK})
		return
	}
	r, code := wire.GetReply(f)
	same(t, "GetReply", []any{r, code}, []any{m.reply, api.OK})
}

func TestP1607DrawnMessagesInDrawnPieces(t *testing.T) {
	for seed := range int64(400) {
		d := newDrawer(seed)
		var all []message
		var stream []byte
		for range d.Intn(10) {
			m := d.message(t)
			all, stream = append(all, m), append(stream, m.bytes...)
		}
		given, left := inPieces(d.cut(stream))
		if len(given) != len(all) || left != 0 {
			t.Fatalf("%d frames of %d, %d bytes are left", len(given), len(all), left)
		}
		for i, f := range given {
			backs(t, f, all[i])
		}
	}
}

func TestP1607EveryNumberOfGroups(t *testing.T) {
	for i := range 64 {
		for _, n := range nums(1<<i, 1<<i-1, -1<<i, -1<<i-1, math.MaxInt64-1<<i/2) {
			r := api.Reply{Code: api.Errno(n), Nums: nums(n, -n), Tables: []api.Table{{Made: int(n), Gone: int(-n), Set: int(n)}},
				Graph: api.Graph{Nodes: []api.Node{{Id: n}}, Edges: []api.Edge{{Id: -n, From: n, To: -n}}}}
			b := replied(t, r)
			backs(t, sound(128, b[8:len(b)-4]...), message{reply: r})
		}
	}
}

func TestP1607LengthsOfTextsAndLists(t *testing.T) {
	for _, n := range []int{0, 1, 126, 127, 128, 129, 16383, 16384, 70000} {
		r := api.Reply{To: 3, Texts: []string{letters(n), ""}, Tables: []api.Table{{Cols: make([]string, n), Rows: [][]api.Val{make([]api.Val, n)}}, {Rows: make([][]api.Val, n)}},
			Graph: api.Graph{Nodes: make([]api.Node, n), Edges: []api.Edge{{Type: letters(n), Props: make([]api.Prop, n)}}}}
		b := replied(t, r)
		backs(t, sound(131, b[8:len(b)-4]...), message{reply: r})
		q := api.Request{Kind: api.DoSubmit, Nums: nums(-1), Text: letters(n)}
		b = asked(t, q)
		backs(t, sound(3, b[8:len(b)-4]...), message{asks: true, request: q})
	}
}

func TestP1607EveryValueOfABool(t *testing.T) {
	for n := range 20 {
		for pattern := range 1 << min(n, 9) {
			q := api.Request{Kind: api.DoCrash, Bits: make([]bool, n)}
			for i := range n {
				q.Bits[i] = pattern>>(i%9)&1 == 1
			}
			b := asked(t, q)
			backs(t, sound(7, b[8:len(b)-4]...), message{asks: true, request: q})
		}
	}
}

// again: what is taken is written as the same bytes again; is it taken?
func again(t *testing.T, kind int, body []byte) bool {
	t.Helper()
	f := api.Frame{Kind: kind, Body: body}
	want := wordsFrame(kind, body)
	if q, code := wire.GetRequest(f); code == api.OK {
		sameBytes(t, "PutRequest("+short(q)+")", asked(t, q), want)
		return true
	}
	if r, code := wire.GetReply(f); code == api.OK {
		sameBytes(t, "PutReply("+short(r)+")", replied(t, r), want)
		return true
	}
	return false
}

func TestP1607OneFormForEach(t *testing.T) {
	d := newDrawer(9)
	taken := 0
	for range 8000 {
		kind, body := d.body()
		if !again(t, kind, body) {
			t.Fatalf("a body of the kind %d is not taken: %s", kind, hex(body))
		}
		if again(t, kind, d.spoil(body)) {
			taken++
		}
	}
	if taken < 1000 {
		t.Errorf("%d of the spoilt ones are taken", taken)
	}
}

func TestP1607NoTwoBodiesOfOneReply(t *testing.T) {
	bodies := map[string][]byte{}
	for n := range 10 {
		eachBody(n, bin(0, 1, 0x81), func(b []byte) {
			r, code := wire.GetReply(api.Frame{Kind: 128, Body: b})
			if code != api.OK {
				return
			}
			text := told(r)
			if other, is := bodies[text]; is {
				t.Errorf("%s has the bodies % x and % x", text, other, b)
			}
			bodies[text] = slices.Clone(b)
		})
	}
	if len(bodies) < 50 {
		t.Errorf("%d replies", len(bodies))
	}
}
