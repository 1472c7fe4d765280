package wire_test

import (
	"bytes"
	"fmt"
	"math"
	"slices"
	"testing"

	"trellis/api"
	"trellis/wire"
)

// agreesRequest: GetRequest of a frame is what the words say; is it a request?
func agreesRequest(t *testing.T, kind int, body []byte) bool {
	t.Helper()
	want, ok := wordsGetRequest(kind, body)
	if !ok {
		noRequest(t, api.Frame{Kind: kind, Body: body}, api.ErrBody)
		return false
	}
	takesRequest(t, body, want)
	return true
}

// agreesReply: GetReply of a frame is what the words say; is it a reply?
func agreesReply(t *testing.T, to int, body []byte) bool {
	t.Helper()
	want, ok := wordsGetReply(to, body)
	if !ok {
		noReply(t, api.Frame{Kind: 128 + to, Body: body}, api.ErrBody)
		return false
	}
	takesReply(t, body, want)
	return true
}

func TestP1604EveryKind(t *testing.T) {
	for kind := -3; kind <= 260; kind++ {
		isRequest, isReply := kind >= 1 && kind <= 12, kind >= 128 && kind <= 140
		if q, code := wire.GetRequest(api.Frame{Kind: kind, Body: bin(0, 0, 0)}); isRequest {
			switch kind {
			case api.DoOpen, api.DoCrash, api.DoStatus, api.DoDump, api.DoWaits: // those that take no number
				same(t, "GetRequest", []any{q, code}, []any{api.Request{Kind: kind}, api.OK})
			default:
				same(t, "GetRequest", []any{q, code}, []any{api.Request{}, api.ErrBody})
			}
		} else {
			same(t, "GetRequest", []any{q, code}, []any{api.Request{}, api.ErrType})
		}
		if r, code := wire.GetReply(api.Frame{Kind: kind, Body: make([]byte, 6)}); isReply {
			same(t, "GetReply", []any{r, code}, []any{api.Reply{To: kind - 128}, api.OK})
		} else {
			same(t, "GetReply", []any{r, code}, []any{api.Reply{}, api.ErrType})
		}
	}
	for _, kind := range []int{math.MinInt, math.MinInt + 130, 1<<32 + 9, 1<<32 + 130, math.MaxInt} {
		noRequest(t, api.Frame{Kind: kind, Body: bin(0, 0, 0)}, api.ErrType)
		noReply(t, api.Frame{Kind: kind, Body: make([]byte, 6)}, api.ErrType)
	}
}

func TestP1604TheCodeIsLookedAtFirst(t *testing.T) {
	for _, code := range []api.Errno{api.ErrFrame, api.ErrSum, api.ErrPower, -1, 9999} {
		for _, kind := range []int{9, 128, 0, 99} {
			for _, body := range [][]byte{nil, bin(0, 0, 0), make([]byte, 6)} {
				noRequest(t, api.Frame{Code: code, Kind: kind, Body: body}, code)
				noReply(t, api.Frame{Code: code, Kind: kind, Body: body}, code)
			}
		}
	}
}

func TestP1604TheKindIsLookedAtAheadOfTheBody(t *testing.T) {
	for _, body := range [][]byte{nil, bin(0x80), make([]byte, api.MaxBody+1)} {
		noRequest(t, api.Frame{Kind: 13, Body: body}, api.ErrType)
		noReply(t, api.Frame{Kind: 127, Body: body}, api.ErrType)
		noReply(t, api.Frame{Kind: 141, Body: body}, api.ErrType)
	}
}

func TestP1604TheLongestBodies(t *testing.T) {
	q := api.Request{Kind: api.DoSubmit, Nums: nums(1), Text: letters(2097146)}
	takesRequest(t, wordsRequest(q), q)
	q.Text += "x"
	noRequest(t, api.Frame{Kind: api.DoSubmit, Body: wordsRequest(q)}, api.ErrBody)
	r := api.Reply{Texts: []string{letters(2097143)}}
	takesReply(t, wordsReply(r), r)
	r.Texts[0] += "x"
	noReply(t, api.Frame{Kind: 128, Body: wordsReply(r)}, api.ErrBody)
	for _, n := range []int{0, 1, 255} {
		body := bytes.Repeat(bin(byte(n)), api.MaxBody+1)
		noRequest(t, api.Frame{Kind: api.DoStatus, Body: body}, api.ErrBody)
		noReply(t, api.Frame{Kind: 128, Body: body}, api.ErrBody)
	}
}

func TestP1604CountsInTooManyGroups(t *testing.T) {
	for _, long := range [][]byte{{0x80, 0}, {0x80, 14}, {0x80, 0x81, 0}, {0x80, 0x80, 14}} {
		noRequest(t, api.Frame{Kind: 4, Body: slices.Concat(bin(1), long, bin(0, 0))}, api.ErrBody)
	}
	for _, body := range [][]byte{{0x80, 0, 0, 0}, {0, 0x80, 0, 0}, {0, 0, 0x80, 0}} {
		noRequest(t, api.Frame{Kind: 7, Body: body}, api.ErrBody)
	}
	noRequest(t, api.Frame{Kind: 4, Body: bin(0x80, 1, 14, 0, 0)}, api.ErrBody)
	noRequest(t, api.Frame{Kind: 3, Body: bin(1, 14, 0x80, 1, 'x', 0)}, api.ErrBody)
	noRequest(t, api.Frame{Kind: 7, Body: bin(0, 0, 0x80, 1, 0x80)}, api.ErrBody)
	for i := range 6 { // each count of the least reply
		body := slices.Insert(make([]byte, 6), i, 0x80)
		noReply(t, api.Frame{Kind: 128, Body: body}, api.ErrBody)
	}
}

func TestP1604CountsOfSixtyFourBits(t *testing.T) {
	groups := func(n int, first, others, last byte) []byte {
		out := bytes.Repeat(bin(others), n)
		out[0], out[n-1] = first, last
		return slices.Concat(bin(1), out, bin(0, 0))
	}
	takesRequest(t, groups(10, 0x81, 0xFF, 0x7F), api.Request{Kind: 4, Nums: nums(math.MinInt64)})
	takesRequest(t, groups(10, 0x81, 0xFF, 0x7E), api.Request{Kind: 4, Nums: nums(math.MaxInt64)})
	takesRequest(t, groups(10, 0x81, 0x80, 0), api.Request{Kind: 4, Nums: nums(1 << 62)})
	takesRequest(t, groups(10, 0x81, 0x80, 1), api.Request{Kind: 4, Nums: nums(-1<<62 - 1)})
	takesRequest(t, groups(9, 0xFF, 0xFF, 0x7E), api.Request{Kind: 4, Nums: nums(1<<62 - 1)})
	for first := 0x80; first <= 0xFF; first++ {
		if first != 0x81 {
			noRequest(t, api.Frame{Kind: 4, Body: groups(10, byte(first), 0x80, 0)}, api.ErrBody)
			noRequest(t, api.Frame{Kind: 4, Body: groups(10, byte(first), 0xFF, 0x7F)}, api.ErrBody)
		}
		for n := 11; n <= 22; n++ {
			noRequest(t, api.Frame{Kind: 4, Body: groups(n, byte(first), 0x80, 0)}, api.ErrBody)
			noRequest(t, api.Frame{Kind: 4, Body: groups(n, byte(first), 0x80, 14)}, api.ErrBody)
		}
	}
	for n := range 40 { // a count without an end
		noRequest(t, api.Frame{Kind: 4, Body: append(bin(1), bytes.Repeat(bin(0xFF), n)...)}, api.ErrBody)
		noReply(t, api.Frame{Kind: 128, Body: bytes.Repeat(bin(0x81), n)}, api.ErrBody)
	}
}

// great: counts far beyond what there is, as they are written.
func great() [][]byte {
	return [][]byte{
		{0x7F}, {0x81, 0}, {0xFF, 0xFF, 0x7F}, {0x88, 0x80, 0x80, 0x80, 0}, {0x87, 0xFF, 0xFF, 0xFF, 0x7F}, // 2^31 and one less
		{0x90, 0x80, 0x80, 0x80, 0}, {0x90, 0x80, 0x80, 0x80, 1}, // 2^32
		{0x81, 0x80, 0x80, 0x80, 0x80, 0x80, 0x80, 0x80, 0x80, 0}, {0xFF, 0xFF, 0xFF, 0xFF, 0xFF, 0xFF, 0xFF, 0xFF, 0x7F}, // 2^63 and one less
		{0x81, 0xFF, 0xFF, 0xFF, 0xFF, 0xFF, 0xFF, 0xFF, 0xFF, 0x79}, {0x81, 0xFF, 0xFF, 0xFF, 0xFF, 0xFF, 0xFF, 0xFF, 0xFF, 0x7F}, // near 2^64
	}
}

func TestP1604MoreThanThereIs(t *testing.T) {
	for _, n := range great() {
		for _, behind := range [][]byte{nil, make([]byte, 40)} {
			for _, ahead := range [][]byte{{}, {0}, {1, 14}, {1, 14, 0}, {0, 0}} {
				body := slices.Concat(ahead, n, behind)
				for _, kind := range []int{3, 4, 7, 9} {
					noRequest(t, api.Frame{Kind: kind, Body: body}, api.ErrBody)
				}
			}
			for _, ahead := range [][]byte{ // ahead of each list and each text of a reply
				{0}, {0, 0}, {0, 0, 1}, {0, 0, 0}, {0, 0, 0, 1}, {0, 0, 0, 1, 1}, {0, 0, 0, 1, 0}, {0, 0, 0, 1, 0, 1}, {0, 0, 0, 1, 0, 1, 1, 4},
				{0, 0, 0, 0}, {0, 0, 0, 0, 1, 2}, {0, 0, 0, 0, 1, 2, 0}, {0, 0, 0, 0, 1, 2, 0, 1}, {0, 0, 0, 0, 1, 2, 0, 1, 0, 4},
				{0, 0, 0, 0, 0}, {0, 0, 0, 0, 0, 1, 2}, {0, 0, 0, 0, 0, 1, 2, 0, 2, 2}, {0, 0, 0, 0, 0, 1, 2, 0, 2, 2, 1},
			} {
				noReply(t, api.Frame{Kind: 128, Body: slices.Concat(ahead, n, behind)}, api.ErrBody)
			}
		}
	}
}

func TestP1604EveryListOfWhatIsThere(t *testing.T) {
	for n := range 30 { // so many numbers are said, and so many are there
		for m := range 30 {
			body := slices.Concat(bin(0, byte(n)), make([]byte, m), make([]byte, 4))
			agreesReply(t, 0, body)
		}
	}
}

func TestP1604ABodyCutOff(t *testing.T) {
	d := newDrawer(4)
	for range 300 {
		kind, body := d.body()
		if len(body) > 2000 {
			continue
		}
		refuses := noRequest
		if kind >= 128 {
			refuses = noReply
		}
		for n := range body {
			refuses(t, api.Frame{Kind: kind, Body: body[:n]}, api.ErrBody)
		}
		for _, more := range []byte{0, 1, 0x80, 0xFF} {
			refuses(t, api.Frame{Kind: kind, Body: append(slices.Clone(body), more)}, api.ErrBody)
		}
	}
}

func TestP1604EveryByteOfBits(t *testing.T) {
	for n := range 256 {
		for b := range 256 {
			body := bin(0, 0, byte(n), byte(b))
			got := agreesRequest(t, api.DoCrash, body)
			want := n >= 1 && n <= 8 && b%(1<<(8-n)) == 0
			if got != want {
				t.Fatalf("GetRequest(7, % x): %v", body, got)
			}
		}
	}
	for n := range 40 {
		for m := range 7 {
			for _, b := range []byte{0, 0x80, 1, 0xFF, 0xF8} {
				agreesRequest(t, api.DoCrash, slices.Concat(bin(0, 0, byte(n)), bytes.Repeat(bin(b), m)))
				agreesRequest(t, api.DoStatus, slices.Concat(bin(0, 0, byte(n)), bytes.Repeat(bin(b), m)))
			}
		}
	}
}

func TestP1604AsManyBitsAsMayBe(t *testing.T) {
	q := api.Request{Kind: api.DoCrash, Bits: make([]bool, api.MaxBits)}
	for i := range q.Bits {
		q.Bits[i] = i%5 < 2
	}
	takesRequest(t, wordsRequest(q), q)
	for _, n := range []int{api.MaxBits + 1, api.MaxBits + 7, api.MaxBits + 8, 1 << 20} {
		q.Bits = make([]bool, n)
		noRequest(t, api.Frame{Kind: api.DoCrash, Body: wordsRequest(q)}, api.ErrBody)
	}
}

func TestP1604AsManyNumbersAsMayBe(t *testing.T) {
	r := api.Reply{To: 11, Nums: make([]int64, api.MaxNums)}
	takesReply(t, wordsReply(r), r)
	for _, n := range []int{api.MaxNums + 1, 1 << 20} {
		r.Nums = make([]int64, n)
		noReply(t, api.Frame{Kind: 139, Body: wordsReply(r)}, api.ErrBody)
	}
}

func TestP1604RequestsThatMayNotBeSent(t *testing.T) {
	for kind := 1; kind <= 12; kind++ {
		for n := range 9 {
			for _, text := range []string{"", "x"} {
				for _, bits := range [][]bool{nil, {true}} {
					q := api.Request{Kind: kind, Nums: make([]int64, n), Text: text, Bits: bits}
					if requestFits(q) {
						takesRequest(t, wordsRequest(q), q)
					} else {
						noRequest(t, api.Frame{Kind: kind, Body: wordsRequest(q)}, api.ErrBody)
					}
				}
			}
		}
	}
}

func TestP1604WhatIsNoValue(t *testing.T) {
	for _, v := range noVals() {
		if v.Kind < 0 || v.Kind > 255 || (&loose{wordsVal(v)}).val() != v {
			continue // no bytes say it
		}
		for _, r := range withVal(v) {
			noReply(t, api.Frame{Kind: 128, Body: wordsReply(r)}, api.ErrBody)
		}
	}
	for kind := range 256 {
		for _, behind := range [][]byte{{}, {0}, {1}, {2}, {0, 0}, {1, 'x'}, {1, 0xFF}} {
			agreesReply(t, 0, slices.Concat(bin(0, 0, 0, 1, 0, 1, 1, byte(kind)), behind, make([]byte, 5)))
			agreesReply(t, 0, slices.Concat(bin(0, 0, 0, 0, 1, 2, 0, 1, 0, byte(kind)), behind, bin(0)))
			agreesReply(t, 0, slices.Concat(bin(0, 0, 0, 0, 0, 1, 2, 0, 2, 2, 1, 0, byte(kind)), behind))
		}
	}
}

// eachBody: every list of n bytes of an alphabet.
func eachBody(n int, alphabet []byte, do func(b []byte)) {
	b := make([]byte, n)
	var fill func(i int)
	fill = func(i int) {
		if i == n {
			do(b)
			return
		}
		for _, x := range alphabet {
			b[i] = x
			fill(i + 1)
		}
	}
	fill(0)
}

func TestP1604EveryShortBodyOfARequest(t *testing.T) {
	for kind, want := range map[int]int{1: 0, 2: 1, 3: 40, 4: 12, 7: 6, 8: 16, 9: 1, 12: 12} {
		found := 0
		for n := range 6 {
			eachBody(n, bin(0, 1, 2, 0x7F, 0x80, 0x81, 0xC0), func(b []byte) {
				if agreesRequest(t, kind, b) {
					found++
				}
			})
		}
		same(t, fmt.Sprintf("how many bodies are requests of kind %d", kind), found, want)
	}
}

func TestP1604EveryShortBodyOfAReply(t *testing.T) {
	found := 0
	for n := range 9 {
		eachBody(n, bin(0, 1, 2, 0x81), func(b []byte) {
			if agreesReply(t, 5, b) {
				found++
			}
		})
	}
	if found < 50 {
		t.Errorf("%d bodies are replies", found)
	}
}

func TestP1604DrawnBodies(t *testing.T) {
	d := newDrawer(5)
	taken, refused := 0, 0
	for range 12000 {
		kind, body := d.body()
		for range 1 + d.Intn(2) {
			body = d.spoil(body)
		}
		agrees := agreesRequest
		if kind >= 128 {
			agrees, kind = agreesReply, kind-128
		}
		if agrees(t, kind, body) {
			taken++
		} else {
			refused++
		}
	}
	if taken < 1000 || refused < 1000 {
		t.Errorf("%d are taken, %d are refused", taken, refused)
	}
}

func TestP1604ABodyIsOfItsOwnKind(t *testing.T) {
	d := newDrawer(6)
	for range 300 {
		_, body := d.body()
		for kind := 1; kind <= 12; kind++ {
			agreesRequest(t, kind, body)
		}
		agreesReply(t, d.Intn(13), body)
	}
}

func TestP1604TheKindOfAReplyIsTo(t *testing.T) {
	for to := range 13 {
		takesReply(t, bin(2, 1, 4, 0, 0, 0, 0), api.Reply{To: to, Code: 1, Nums: nums(2)})
		same(t, fmt.Sprintf("the kind of a reply to %d", to), int(replied(t, api.Reply{To: to})[2]), 128+to)
	}
}
