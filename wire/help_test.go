package wire_test

import (
	"bytes"
	"fmt"
	"slices"
	"strings"
	"testing"

	"trellis/api"
	"trellis/wire"
)

// bin: these bytes, as a list.
func bin(of ...byte) []byte { return of }

// nums: these numbers, as a list.
func nums(of ...int64) []int64 { return of }

// status: the frame of the chapter's first example.
func status() []byte {
	return bin(0xA5, 0x5A, 9, 0, 0, 0, 0x24, 9, 0, 0x8D, 0, 0x37)
}

// told: all that something tells, each text within quotes. (A list that is nil tells the same as one without elements.)
func told(of any) string { return strings.ReplaceAll(fmt.Sprintf("%#v", of), "(nil)", "{}") }

// short: what something tells, cut off where it is too long to be read.
func short(of any) string {
	s := told(of)
	if len(s) > 2000 {
		return s[:2000] + " .."
	}
	return s
}

// same: do the two tell the same?
func same(t *testing.T, what string, got, want any) {
	t.Helper()
	if told(got) != told(want) {
		t.Errorf("%s = %s, want %s", what, short(got), short(want))
	}
}

// sameBytes: are the two the same bytes?
func sameBytes(t *testing.T, what string, got, want []byte) {
	t.Helper()
	if !bytes.Equal(got, want) {
		t.Errorf("%s = %s, want %s", what, hex(got), hex(want))
	}
}

// hex: bytes as they are written, cut off where there are too many.
func hex(b []byte) string {
	if len(b) > 200 {
		return fmt.Sprintf("% x .. (%d bytes)", b[:200], len(b))
	}
	return fmt.Sprintf("% x", b)
}

// frame: a frame that can be made.
func frame(t *testing.T, kind int, body []byte) []byte {
	t.Helper()
	b, code := wire.Frame(kind, body)
	if code != api.OK {
		t.Fatalf("Frame(%d, %s) = %d", kind, hex(body), code)
	}
	return b
}

// asked: the frame of a request that may be sent.
func asked(t *testing.T, q api.Request) []byte {
	t.Helper()
	b, code := wire.PutRequest(q)
	if code != api.OK {
		t.Fatalf("PutRequest(%s) = %d", short(q), code)
	}
	return b
}

// replied: the frame of a reply that may be sent.
func replied(t *testing.T, r api.Reply) []byte {
	t.Helper()
	b, code := wire.PutReply(r)
	if code != api.OK {
		t.Fatalf("PutReply(%s) = %d", short(r), code)
	}
	return b
}

// notAsked: a request is refused so, and nothing is told beside.
func notAsked(t *testing.T, q api.Request, want api.Errno) {
	t.Helper()
	if b, code := wire.PutRequest(q); len(b) != 0 || code != want {
		t.Errorf("PutRequest(%s) = %s, %d, want %d", short(q), hex(b), code, want)
	}
}

// notReplied: a reply is refused so, and nothing is told beside.
func notReplied(t *testing.T, r api.Reply, want api.Errno) {
	t.Helper()
	if b, code := wire.PutReply(r); len(b) != 0 || code != want {
		t.Errorf("PutReply(%s) = %s, %d, want %d", short(r), hex(b), code, want)
	}
}

// takesRequest: a frame of that kind with that body is that request.
func takesRequest(t *testing.T, body []byte, want api.Request) {
	t.Helper()
	q, code := wire.GetRequest(api.Frame{Kind: want.Kind, Body: body})
	same(t, fmt.Sprintf("GetRequest(%d, %s)", want.Kind, hex(body)), []any{q, code}, []any{want, api.OK})
}

// takesReply: a frame of that kind with that body is that reply.
func takesReply(t *testing.T, body []byte, want api.Reply) {
	t.Helper()
	r, code := wire.GetReply(api.Frame{Kind: 128 + want.To, Body: body})
	same(t, fmt.Sprintf("GetReply(%d, %s)", 128+want.To, hex(body)), []any{r, code}, []any{want, api.OK})
}

// noRequest: a frame is refused as a request, so, and nothing is told beside.
func noRequest(t *testing.T, f api.Frame, want api.Errno) {
	t.Helper()
	if q, code := wire.GetRequest(f); code != want || told(q) != told(api.Request{}) {
		t.Errorf("GetRequest(%s) = %s, %d, want %d", short(f), short(q), code, want)
	}
}

// noReply: a frame is refused as a reply, so, and nothing is told beside.
func noReply(t *testing.T, f api.Frame, want api.Errno) {
	t.Helper()
	if r, code := wire.GetReply(f); code != want || told(r) != told(api.Reply{}) {
		t.Errorf("GetReply(%s) = %s, %d, want %d", short(f), short(r), code, want)
	}
}

// gives: for the bytes b a reader gives what it should give, and has as many bytes left.
func gives(t *testing.T, b []byte, got []api.Frame, left int, want []api.Frame, wantLeft int) {
	t.Helper()
	alike := func(x, y api.Frame) bool { return x.Code == y.Code && x.Kind == y.Kind && bytes.Equal(x.Body, y.Body) }
	if left != wantLeft || !slices.EqualFunc(got, want, alike) {
		t.Errorf("for %s it gives %s, and has %d left, want %s and %d", hex(b), short(got), left, short(want), wantLeft)
	}
}

// feeds: a reader that is fed b gives these, and has so many bytes left.
func feeds(t *testing.T, r *wire.Reader, b []byte, left int, want ...api.Frame) {
	t.Helper()
	gives(t, b, r.Feed(b), r.Left(), want, left)
}

// The frames that a reader gives.
func sound(kind int, body ...byte) api.Frame { return api.Frame{Kind: kind, Body: body} }
func broken(b []byte) api.Frame              { return api.Frame{Code: api.ErrSum, Body: b} }
func none(first byte) api.Frame              { return api.Frame{Code: api.ErrFrame, Body: bin(first)} }

// letters: a text of n bytes.
func letters(n int) string { return strings.Repeat("x", n) }
