package server_test

import (
	"bytes"
	"math/rand"
	"testing"

	"trellis/api"
	"trellis/server"
	"trellis/wire"
)

func frame(t *testing.T, kind int, body ...byte) []byte {
	t.Helper()
	b, code := wire.Frame(kind, body)
	if code != api.OK {
		t.Fatalf("Frame: %d", code)
	}
	return b
}

// TestP1701Order: one reply for each thing that the reader gives, in order.
func TestP1701Order(t *testing.T) {
	spoilt := bytesOf(t, api.Request{Kind: api.DoStatus})
	spoilt[len(spoilt)-1] ^= 1
	in := bytes.Join([][]byte{
		[]byte("garbage"),
		bytesOf(t, api.Request{Kind: api.DoStatus}),
		spoilt,
		frame(t, 13, 0, 0, 0),
		frame(t, 9, 0, 0),
		bytesOf(t, api.Request{Kind: api.DoFormat, Nums: []int64{1, 1, 1, 1, 1, 1}}, api.Request{Kind: api.DoStatus}),
		{0},
		bytesOf(t, api.Request{Kind: api.DoDump}),
	}, nil)
	want := []api.Reply{
		{Code: api.ErrFrame},
		{To: api.DoStatus, Nums: []int64{0, 0, 0, 0}},
		{Code: api.ErrSum},
		{Code: api.ErrType},
		{Code: api.ErrBody},
		{To: api.DoFormat, Nums: []int64{14}},
		{To: api.DoStatus, Nums: []int64{2, 0, 0, 0}},
		{Code: api.ErrFrame},
		{To: api.DoDump},
	}
	same(t, "the replies", repliesOf(t, server.New().Feed(in)), want)
}

// TestP1701NoRequest: each frame of a kind that is no request's, or with a body that is none of its kind.
func TestP1701NoRequest(t *testing.T) {
	for kind := 13; kind <= 255; kind++ {
		same(t, "a frame of another kind", repliesOf(t, server.Play(frame(t, kind, 0, 0, 0))), []api.Reply{{Code: api.ErrType}})
	}
	reply, _ := wire.PutReply(api.Reply{To: api.DoStatus})
	same(t, "a reply", repliesOf(t, server.Play(reply)), []api.Reply{{Code: api.ErrType}})
	for kind := 1; kind <= 12; kind++ {
		for _, body := range [][]byte{nil, {0}, {0, 0}, {0, 0, 0, 0}, {9, 0, 0}, {0xFF, 0xFF}, {0x80, 0, 0, 0}, {7, 2, 2, 2, 2, 2, 2, 2, 0, 0}} {
			same(t, "a body that is none", repliesOf(t, server.Play(frame(t, kind, body...))), []api.Reply{{Code: api.ErrBody}})
		}
	}
}

func TestP1701NothingWhole(t *testing.T) {
	s := server.New()
	b := bytesOf(t, api.Request{Kind: api.DoStatus})
	for i := range b {
		if got := s.Feed(b[i : i+1]); (len(got) > 0) != (i == len(b)-1) {
			t.Errorf("behind byte %d: % x", i, got)
		}
		if len(s.Feed(nil)) != 0 {
			t.Error("Feed(nil) answers something")
		}
	}
}

// script: a stretch of requests of all kinds, with garbage between.
func script(t *testing.T) []byte {
	t.Helper()
	list := []api.Request{
		{Kind: api.DoStatus},
		{Kind: api.DoOpen},
		{Kind: api.DoFormat, Nums: []int64{2, 2, 4, 4, 3, 2}},
		{Kind: api.DoSubmit, Nums: []int64{1}, Text: "create (a:n {k: 1})-[:r {w: 'x'}]->(b:m {k: 2i})"},
		{Kind: api.DoSubmit, Nums: []int64{2}, Text: "match (a) return a, a.k"},
		{Kind: api.DoSubmit, Nums: []int64{3}, Text: "match (a:n) set a.k = 2; abort"},
		{Kind: api.DoPick, Nums: []int64{2}},
		{Kind: api.DoPick, Nums: []int64{1}},
		{Kind: api.DoWaits},
		{Kind: api.DoRun, Nums: []int64{50}},
		{Kind: api.DoResult, Nums: []int64{2, 0}},
		{Kind: api.DoForget, Nums: []int64{2}},
		{Kind: api.DoCut, Nums: []int64{1}},
		{Kind: api.DoSubmit, Nums: []int64{4}, Text: "create (:o)"},
		{Kind: api.DoRun, Nums: []int64{50}},
		{Kind: api.DoCrash, Bits: []bool{true, false, true}},
		{Kind: api.DoOpen},
		{Kind: api.DoDump},
		{Kind: api.DoStatus},
	}
	var out []byte
	for i, q := range list {
		b := bytesOf(t, q)
		if i%5 == 2 {
			out = append(out, 'x', 0xA5)
		}
		if i%7 == 3 {
			wrong := bytes.Clone(b)
			wrong[len(wrong)-1] ^= 4
			out = append(out, wrong...)
		}
		out = append(out, b...)
	}
	return out
}

// TestP1702TwoPieces: cut at each place.
func TestP1702TwoPieces(t *testing.T) {
	in := script(t)
	want := server.Play(in)
	if n := len(repliesOf(t, want)); n < 19 {
		t.Fatalf("%d replies", n)
	}
	for at := range len(in) + 1 {
		s := server.New()
		got := append(s.Feed(in[:at]), s.Feed(in[at:])...)
		if !bytes.Equal(got, want) {
			t.Fatalf("cut at %d: other replies", at)
		}
	}
}

func TestP1702ManyPieces(t *testing.T) {
	in := script(t)
	want := server.Play(in)
	for seed := range int64(100) {
		r := rand.New(rand.NewSource(seed))
		s := server.New()
		var got []byte
		for rest := in; len(rest) > 0; {
			n := 1 + r.Intn(min(len(rest), 1+int(seed)*3))
			got = append(got, s.Feed(rest[:n])...)
			rest = rest[n:]
		}
		if !bytes.Equal(got, want) {
			t.Fatalf("seed %d: other replies", seed)
		}
	}
}

// TestP1702PlayIsNew: each Play begins with a new server.
func TestP1702PlayIsNew(t *testing.T) {
	in := bytesOf(t, api.Request{Kind: api.DoStatus}, api.Request{Kind: api.DoFormat, Nums: []int64{1, 1, 1, 1, 1, 1}}, api.Request{Kind: api.DoStatus})
	want := []api.Reply{{To: api.DoStatus, Nums: []int64{0, 0, 0, 0}}, {To: api.DoFormat, Nums: []int64{14}}, {To: api.DoStatus, Nums: []int64{2, 0, 0, 0}}}
	for range 2 {
		same(t, "Play", repliesOf(t, server.Play(in)), want)
	}
	if len(server.Play(nil)) != 0 {
		t.Error("Play(nil) answers something")
	}
}

func TestP1702Nil(t *testing.T) {
	var s *server.Server
	if s.Feed(script(t)) != nil || s.Feed(nil) != nil || s.Image() != nil {
		t.Error("a nil server answers something")
	}
}

// TestP1702Memory: what is handed in is neither changed nor kept, and what is handed out is the caller's.
func TestP1702Memory(t *testing.T) {
	in := script(t)
	want := server.Play(in)
	s := server.New()
	var got []byte
	for rest := in; len(rest) > 0; {
		n := min(7, len(rest))
		piece := append(make([]byte, 0, 64), rest[:n]...)
		spare := piece[:cap(piece)]
		out := s.Feed(piece)
		if !bytes.Equal(piece, rest[:n]) || bytes.Count(spare[n:], []byte{0}) != len(spare)-n {
			t.Fatal("Feed changes what it is given")
		}
		got = append(got, out...)
		for i := range spare {
			spare[i] = 0xA5
		}
		for i := range out[:cap(out)] {
			out[:cap(out)][i] = 0xA5
		}
		rest = rest[n:]
	}
	if !bytes.Equal(got, want) {
		t.Error("Feed keeps what it is given, or what it has answered")
	}
}
