package wire_test

import (
	"bytes"
	"fmt"
	"math"
	"runtime"
	"slices"
	"sync"
	"testing"
	"time"

	"trellis/api"
	"trellis/wire"
)

func TestP1601ANilReader(t *testing.T) {
	var r *wire.Reader
	for _, b := range [][]byte{nil, status(), []byte("xyz"), bin(0xA5)} {
		feeds(t, r, b, 0)
	}
}

// wildKind: any number, near the edges now and then.
func (d drawer) wildKind() int {
	return []int{d.Intn(16) - 1, 126 + d.Intn(17), 254 + d.Intn(4), math.MinInt, math.MaxInt, int(d.Uint64())}[d.Intn(6)]
}

func TestP1601WildFrames(t *testing.T) {
	d := newDrawer(16)
	for range 30000 {
		f := api.Frame{Kind: d.wildKind(), Body: d.bytes(d.Intn(30))}
		if d.Intn(20) == 0 {
			f.Code = api.Errno(d.number())
		}
		if q, code := wire.GetRequest(f); code != api.OK {
			same(t, "the request beside an error", q, api.Request{})
		}
		if r, code := wire.GetReply(f); code != api.OK {
			same(t, "the reply beside an error", r, api.Reply{})
		}
	}
}

// wildVal: any fields.
func (d drawer) wildVal() api.Val {
	v := api.Val{Kind: d.Intn(9) - 1, A: int64(d.Intn(3))}
	if d.Intn(4) == 0 {
		v = api.Val{Kind: d.wildKind(), A: d.number(), B: d.number(), S: d.text()}
	}
	return v
}

func TestP1601WildRequestsAndReplies(t *testing.T) {
	d := newDrawer(17)
	bits := func() bool { return d.Intn(2) == 0 }
	prop := func() api.Prop { return api.Prop{Key: d.text(), Val: d.wildVal()} }
	for range 5000 {
		q := api.Request{Kind: d.wildKind(), Nums: many(d, d.number), Text: d.text(), Bits: many(d, bits)}
		b, code := wire.PutRequest(q)
		switch {
		case q.Kind < 1 || q.Kind > 12:
			same(t, short(q), []any{b, code}, []any{bin(), api.ErrType})
		case !requestFits(q):
			same(t, short(q), []any{b, code}, []any{bin(), api.ErrBody})
		default:
			sameBytes(t, short(q), b, wordsFrame(q.Kind, wordsRequest(q)))
		}
		r := api.Reply{To: d.wildKind(), Tables: []api.Table{{Rows: [][]api.Val{many(d, d.wildVal)}}}, Graph: api.Graph{Edges: []api.Edge{{Props: many(d, prop)}}}}
		b, code = wire.PutReply(r)
		switch {
		case r.To < 0 || r.To > 12:
			same(t, short(r), []any{b, code}, []any{bin(), api.ErrType})
		case !replyFits(r):
			same(t, short(r), []any{b, code}, []any{bin(), api.ErrBody})
		default:
			sameBytes(t, short(r), b, wordsFrame(128+r.To, wordsReply(r)))
		}
	}
}

// roomy: the same bytes in a list with spare room, which is full of another byte.
func roomy(b []byte) []byte {
	out := slices.Concat(b, bytes.Repeat(bin(0xEE), 40))
	return out[:len(b)]
}

// untouched: have the bytes of roomy, and its spare room, not been changed?
func untouched(t *testing.T, what string, b, want []byte) {
	t.Helper()
	sameBytes(t, what, b, want)
	sameBytes(t, what+": the spare room", b[len(b):len(b)+40], bytes.Repeat(bin(0xEE), 40))
}

// scribble: writes into all of a list, its spare room too.
func scribble[T any](of []T, with T) {
	of = of[:cap(of)]
	for i := range of {
		of[i] = with
	}
}

// scribbleBehind: writes into the spare room of a list.
func scribbleBehind[T any](of []T, with T) {
	scribble(of[len(of):], with)
}

func TestP1601FeedKeepsNothing(t *testing.T) {
	d := newDrawer(18)
	for range 300 {
		stream := d.stream()
		want, left := inPieces([][]byte{stream})
		r := wire.NewReader()
		var got []api.Frame
		for _, piece := range d.cut(stream) {
			b := roomy(piece)
			got = append(got, r.Feed(b)...)
			untouched(t, "what was handed in", b, piece)
			scribble(b, 0xA5) // nobody may see that
		}
		gives(t, stream, got, r.Left(), want, left)
	}
}

func TestP1601FeedGivesNewMemory(t *testing.T) {
	spoilt := status()
	spoilt[11]++
	stream := slices.Concat(frame(t, 7, bin(1, 2, 3)), spoilt, spoilt, []byte("xy"), frame(t, 8, bin(4, 5)), status(), []byte("zz"), status()[:9])
	want := wire.NewReader().Feed(stream)
	same(t, "how many there are", len(want), 7)
	for i := range want {
		r := wire.NewReader()
		got := r.Feed(stream)
		scribble(got[i].Body, 0xEE)
		for j := range got {
			if i != j {
				same(t, "another one of the same answer", got[j], want[j])
			}
		}
		feeds(t, r, status()[9:], 0, sound(9))
	}
	r := wire.NewReader()
	got := r.Feed(stream)
	scribble(got, api.Frame{})
	feeds(t, r, status()[9:], 0, sound(9))
}

func TestP1601FrameKeepsNothing(t *testing.T) {
	body := roomy(bin(1, 2, 3))
	b := frame(t, 9, body)
	untouched(t, "the body that was handed in", body, bin(1, 2, 3))
	want := slices.Clone(b)
	scribble(body, 7)
	sameBytes(t, "the frame", b, want)
	body = bin(1, 2, 3)
	scribble(frame(t, 9, body), 0)
	sameBytes(t, "the body", body, bin(1, 2, 3))
}

func TestP1601PutChangesNothing(t *testing.T) {
	d := newDrawer(19)
	for range 500 {
		q, r := d.request(), d.reply()
		wantQ, wantR := told(q), told(r)
		list := append(make([]int64, 0, 20), r.Nums...)
		scribbleBehind(list, -9)
		room := fmt.Sprint(list[len(list):cap(list)])
		r.Nums = list
		first := replied(t, r)
		asked(t, q)
		same(t, "what was handed in", []any{told(q), told(r)}, []any{wantQ, wantR})
		same(t, "its spare room", fmt.Sprint(list[len(list):cap(list)]), room)
		scribble(first, 0)
		sameBytes(t, "the same reply once more", replied(t, r), wordsFrame(128+r.To, wordsReply(r)))
	}
}

// scribbleReply: writes into the spare room of each list of a reply.
func scribbleReply(r api.Reply) {
	v := api.Val{Kind: api.KInt, A: 99}
	scribbleBehind(r.Nums, 99)
	scribbleBehind(r.Texts, "spare")
	scribbleBehind(r.Tables, api.Table{Made: 99})
	for _, table := range r.Tables {
		scribbleBehind(table.Cols, "spare")
		scribbleBehind(table.Rows, []api.Val{v})
		for _, row := range table.Rows {
			scribbleBehind(row, v)
		}
	}
	scribbleBehind(r.Graph.Nodes, api.Node{Id: 99})
	for _, n := range r.Graph.Nodes {
		scribbleBehind(n.Props, api.Prop{Key: "spare"})
	}
	scribbleBehind(r.Graph.Edges, api.Edge{Id: 99})
	for _, e := range r.Graph.Edges {
		scribbleBehind(e.Props, api.Prop{Key: "spare"})
	}
}

func TestP1601GetGivesNewMemory(t *testing.T) {
	d := newDrawer(20)
	for range 500 {
		r := d.reply()
		want := wordsReply(r)
		body := roomy(want)
		got, _ := wire.GetReply(api.Frame{Kind: 128 + r.To, Body: body})
		scribbleReply(got)
		untouched(t, "the body that was handed in", body, want)
		scribble(body, 0xEE)
		same(t, "the reply", got, r)
		q := d.request()
		want = wordsRequest(q)
		body = roomy(want)
		asks, _ := wire.GetRequest(api.Frame{Kind: q.Kind, Body: body})
		scribbleBehind(asks.Nums, 99)
		scribbleBehind(asks.Bits, true)
		untouched(t, "the body that was handed in", body, want)
		scribble(body, 0xEE)
		same(t, "the request", asks, q)
	}
}

func TestP1601AllGoroutinesHaveEnded(t *testing.T) {
	before := runtime.NumGoroutine()
	d := newDrawer(21)
	r := wire.NewReader()
	for range 2000 {
		r.Feed(d.stream())
		r.Feed(nil)
	}
	for range 2000 { // the last one may be on its way out still
		if runtime.NumGoroutine() <= before {
			return
		}
		time.Sleep(time.Millisecond)
	}
	same(t, "how many goroutines there are", runtime.NumGoroutine(), before)
}

func TestP1601ReadersAtOneTime(t *testing.T) {
	var all sync.WaitGroup
	for seed := range int64(8) {
		all.Go(func() {
			for i := range int64(50) {
				newPair().feed(t, newDrawer(100*seed+i).stream())
			}
		})
	}
	all.Wait()
}

func TestP1601TheSameOnceMore(t *testing.T) {
	d := newDrawer(22)
	for range 300 {
		q, r, stream := d.request(), d.reply(), d.stream()
		sameBytes(t, "PutRequest", asked(t, q), asked(t, q))
		sameBytes(t, "PutReply", replied(t, r), replied(t, r))
		same(t, "Feed", wire.NewReader().Feed(stream), wire.NewReader().Feed(stream))
	}
}
