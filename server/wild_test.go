package server_test

import (
	"bytes"
	"fmt"
	"math"
	"testing"
	"time"

	"trellis/api"
	"trellis/server"
	"trellis/wire"
)

// failures: programs that fail, by their codes and by how many tables stand ahead of the error; over the graph of TestP8Fails.
var failures = []struct {
	text   string
	code   api.Errno
	tables int64
}{
	{"abort", api.ErrAborted, 0},
	{"create (:a); create (:b); match (a:n) set a.k = 9; abort", api.ErrAborted, 3},
	{"match (a:n) return a.k + a.s", api.ErrKind, 0},
	{"match (a:n) where a.k return a", api.ErrKind, 0},
	{"return 1; return 1 / 0", api.ErrZero, 1},
	{"return 9223372036854775807 + 1", api.ErrRange, 0},
	{"create (:b); return (1 + 1i) / (2 + 1i)", api.ErrInexact, 1},
	{"match (a:n) delete a", api.ErrHasEdges, 0},
	{"match (a:n) create (a)-[:r]->(b:b) set a.k = b", api.ErrProps, 0},
	{"create (:b {a: 1, b: 2, c: 3, d: 4, e: 5, f: 6, g: 7, h: 8}); match (b:b) set b.i = 9", api.ErrProps, 1},
	{"match (a:n)-[e]->() delete e detach delete a set a.k = 1", api.ErrGone, 0},
	{"match (a:n), (b:n) return dist(a, b, r, s)", api.ErrKind, 0},
	{"match (a:n), (b:n) return dist(a, b, r, w)", api.ErrWeight, 0},
	{"create (:f), (:f), (:f), (:f), (:f), (:f), (:f); match (a), (b), (c), (d) return 1", api.ErrRows, 1},
	{"create (:n {k: 1})", api.ErrRule, 1},
	{"create (:rule)", api.ErrNoRule, 1},
	{"create (:n {k: 1}), (:rule)", api.ErrNoRule, 1},
	{"create (:f)-[:s]->(:f)-[:s]->(:f)-[:s]->(:f)-[:s]->(:f)-[:s]->(:f)-[:s]->(:f); match (a:f), (b:f) create (a)-[:s]->(b)", api.ErrFull, 2},
	{"match (a:n) set a.a = 1, a.b = 2, a.c = 3, a.d = 4, a.e = 5; create (:z {a: 1, b: 2, c: 3, d: 4}); create (:z {a: 1, b: 2, c: 3, d: 4})", api.ErrFull, 3},
}

// TestP8Fails: each fails with just its error behind just its tables, leaves no trace, and takes no room in the log.
func TestP8Fails(t *testing.T) {
	c := wide(t, 1, 1)
	c.done("create (:rule {kind: 'unique', of: 'n', key: 'k'}), (a:n {k: 1, s: 'x'})-[:r {w: -1, s: 'y'}]->(:n {k: 2, s: 'x'})")
	c.picks(0)
	was := c.graph()
	stamp := int64(1)
	for _, x := range failures {
		stamp++
		c.begins(5, x.text, stamp)
		for range x.tables {
			c.picks(5, 1, 0, 0, 0)
		}
		c.picks(5, 6, int64(x.code), 0, 0)
		c.is(x.text, c.do(api.DoResult, 5, -1), api.OK, 6, int64(x.code), x.tables, 0, stamp, 0)
		c.tables(5)
		c.is(x.text, c.do(api.DoPick, 5), api.ErrDone)
		same(t, x.text+": the graph", c.graph(), was)
		c.status(2, 1, 0, 0)
		c.do(api.DoForget, 5)
	}
}

// TestP8Fuel: more steps than a query may take.
func TestP8Fuel(t *testing.T) {
	c := newClient(t)
	c.do(api.DoFormat, 7, 1, 2, 2, 1, 1)
	c.done("create (:n {k: 1})")
	for range 5 {
		c.done("match (a:n) create (:n)")
	}
	c.done("create (:n)")
	same(t, "33 to the power of 4", c.answer("match (a), (b), (c), (d) where false return 1"), fmt.Sprint("error ", int(api.ErrFuel)))
	same(t, "33 to the power of 3", c.answer("match (a), (b), (c) where false return 1"), "")
	c.status(2, 7, 0, 0)
}

// junk: bytes of which none is a request that does something: garbage, spoilt frames, frames that are no request, and requests that are refused.
func junk(t *testing.T, d draw) []byte {
	t.Helper()
	status := bytesOf(t, api.Request{Kind: api.DoStatus})
	spoilt := func(at int) []byte {
		out := bytes.Clone(status)
		out[at] ^= 1 << d.Intn(8)
		return out
	}
	refused := []api.Request{
		{Kind: api.DoFormat, Nums: []int64{1, 1, 1, 1, 1, 0}},
		{Kind: api.DoOpen},
		{Kind: api.DoSubmit, Nums: []int64{pick[int64](d, 500, 0, 1<<40, 1)}, Text: pick(d, senseless...)},
		{Kind: api.DoPick, Nums: []int64{pick[int64](d, 500, -1, math.MinInt64)}},
		{Kind: api.DoRun, Nums: []int64{pick[int64](d, 0, -1, math.MaxInt64)}},
		{Kind: api.DoCut, Nums: []int64{-5}},
		{Kind: api.DoResult, Nums: []int64{d.id(), d.Int63n(12) - 2}},
		{Kind: api.DoStatus}, {Kind: api.DoDump}, {Kind: api.DoWaits},
		{Kind: api.DoForget, Nums: []int64{pick[int64](d, 500, -1, 1<<31)}},
	}
	switch d.Intn(5) {
	case 0:
		return bytes.Repeat([]byte{byte(d.Intn(0xA5))}, 1+d.Intn(5))
	case 1:
		return spoilt(8 + d.Intn(len(status)-8))
	case 2:
		return frame(t, 13+d.Intn(243), 0, 0, 0)
	case 3:
		return frame(t, 1+d.Intn(12), byte(d.Intn(9)), byte(d.Intn(9)))
	}
	return bytesOf(t, pick(d, refused...))
}

// TestP8Junk: what cannot be taken changes no later answer but its own: with it between the requests, and without it, these have the same replies, and the disk has the same bytes.
func TestP8Junk(t *testing.T) {
	for seed := range int64(60) {
		d := newDraw(seed)
		plain, other := server.New(), server.New()
		first := bytesOf(t, api.Request{Kind: api.DoFormat, Nums: []int64{2, 2, 4, 6, 4, 3}})
		plain.Feed(first)
		other.Feed(first)
		for range 150 {
			q := d.request()
			if q.Kind == api.DoCrash || q.Kind == api.DoFormat {
				continue // so that it stays up, where junk can do most harm
			}
			if q.Kind == api.DoCut {
				q = api.Request{Kind: api.DoRun, Nums: []int64{3}}
			}
			in := bytesOf(t, q)
			want := plain.Feed(in)
			mixed := other.Feed(append(junk(t, d), in...))
			if !bytes.HasSuffix(mixed, want) {
				t.Fatalf("seed %d: behind junk %s is answered %+v, want %+v", seed, askedText(q), repliesOf(t, mixed), repliesOf(t, want))
			}
			if !bytes.Equal(plain.Image(), other.Image()) {
				t.Fatalf("seed %d: junk has changed the disk", seed)
			}
		}
	}
}

// TestP8Garbage: any bytes at all: it ends, and the server goes on.
func TestP8Garbage(t *testing.T) {
	for seed := range int64(300) {
		d := newDraw(seed)
		s := server.New()
		in := script(t)
		for range 1 + d.Intn(20) {
			at := d.Intn(len(in))
			switch d.Intn(4) {
			case 0:
				in[at] = byte(d.Intn(256))
			case 1:
				in = append(in[:at:at], in[min(len(in), at+1+d.Intn(30)):]...)
			case 2:
				in = bytes.Join([][]byte{in[:at], {0xA5, 0x5A, byte(d.Intn(256))}, in[at:]}, nil)
			case 3:
				in[at] ^= 1 << d.Intn(8)
			}
		}
		repliesOf(t, s.Feed(in))
		s.Feed(bytes.Repeat([]byte{0}, 70000)) // a frame that lacks some bytes takes as many of these (a head whose sum is right all the same, 0 being 255 to it, may want as many as 65535)
		list := repliesOf(t, s.Feed(bytesOf(t, api.Request{Kind: api.DoStatus})))
		if len(list) != 1 || list[0].To != api.DoStatus {
			t.Fatalf("seed %d: behind garbage: %+v", seed, list)
		}
	}
}

// wildRequest: a request of a drawn kind with drawn numbers.
func wildRequest(t *testing.T, d draw) []byte {
	t.Helper()
	q := d.request()
	if len(q.Nums) > 0 && d.one(4) {
		q.Nums[d.Intn(len(q.Nums))] = pick[int64](d, math.MinInt64, math.MaxInt64, -1, 0, 1, 1<<30, 1<<31, 1<<32, 1<<62, d.Int63())
	}
	b, code := wire.PutRequest(q)
	if code != api.OK {
		t.Fatalf("PutRequest(%+v): %d", q, code)
	}
	return b
}

// spoil: some bytes of the image are others; with sums that are right all the same, if it is to be believed.
func spoil(d draw, image []byte) {
	for range 1 + d.Intn(4) {
		sector := d.Intn(len(image) / api.SectorSize)
		for range 1 + d.Intn(3) {
			at := sector*api.SectorSize + d.Intn(api.SectorSize)
			image[at] = pick(d, byte(d.Intn(256)), 0, 1, 2, 255, image[at]^1<<d.Intn(8), image[at]+1)
		}
		if !d.one(4) {
			resum(image, sector)
		}
	}
}

// TestP8SpoiltImages: over spoilt bytes, too, every request is answered, and nothing panics.
func TestP8SpoiltImages(t *testing.T) {
	x := newBench(t, 5, usual, 4, 3).filled()
	for range 60 {
		x.act()
	}
	x.runOn(500)
	x.begin("match (a:n) set a.k = 5")
	x.begin("create (:n {k: 1, j: 'x'})-[:r {w: 1}]->(:m {k: 2})")
	x.runOn(99)
	opened := 0
	for seed := range int64(1500) {
		d := newDraw(seed)
		image := x.s.Image()
		spoil(d, image)
		c := over(t, image, 4, 3)
		start := time.Now()
		if c.do(api.DoOpen).Code == api.OK {
			opened++
		}
		for range 40 {
			in := wildRequest(t, d)
			if in[2] == api.DoFormat {
				continue
			}
			if n := len(repliesOf(t, c.s.Feed(in))); n != 1 {
				t.Fatalf("seed %d: %d replies", seed, n)
			}
		}
		if took := time.Since(start); took > 20*time.Second {
			t.Fatalf("seed %d: it took %v", seed, took)
		}
	}
	if opened < 500 {
		t.Errorf("%d of the spoilt images could be opened", opened)
	}
}
