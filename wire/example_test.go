package wire_test

import (
	"testing"

	"trellis/api"
	"trellis/wire"
)

func TestP1602Example1(t *testing.T) {
	sameBytes(t, "Frame(9, nil)", frame(t, 9, nil), bin(0xA5, 0x5A, 0x09, 0, 0, 0, 0x24, 0x09, 0x00, 0x8D, 0x00, 0x37))
}

func TestP1603Example2(t *testing.T) {
	for n, want := range map[int][]byte{0: {0}, 127: {0x7F}, 128: {0x81, 0}, 300: {0x82, 0x2C}} { // counts, as a text has one
		b := asked(t, api.Request{Kind: api.DoSubmit, Nums: nums(0), Text: letters(n)})
		sameBytes(t, "a count", b[10:10+len(want)], want)
	}
	for n, want := range map[int64][]byte{-1: {1}, 1: {2}, -64: {0x7F}, 64: {0x81, 0}} {
		asksFor(t, api.Request{Kind: api.DoRun, Nums: nums(n)}, append(append(bin(1), want...), 0, 0)...)
	}
}

func TestP1603Example3(t *testing.T) {
	asksFor(t, api.Request{Kind: 9}, 0, 0, 0)
	asksFor(t, api.Request{Kind: 4, Nums: nums(7)}, 1, 0x0E, 0, 0)
}

func TestP1603Example4(t *testing.T) {
	asksFor(t, api.Request{Kind: 7, Bits: []bool{true, false, true}}, 0, 0, 3, 0xA0)
	noRequest(t, sound(7, 0, 0, 3, 0xA1), api.ErrBody)
}

func TestP1603Example5(t *testing.T) {
	notAsked(t, api.Request{Kind: 4}, api.ErrBody)
	notAsked(t, api.Request{Kind: 13}, api.ErrType)
	notAsked(t, api.Request{Kind: 9, Text: "x"}, api.ErrBody)
}

func TestP1603Example6(t *testing.T) {
	r := api.Reply{To: 4, Nums: nums(1, 0, 0, 0)}
	replies(t, r, 0, 4, 2, 0, 0, 0, 0, 0, 0, 0)
	same(t, "its kind", int(replied(t, r)[2]), 132)
}

func TestP1605Example7(t *testing.T) {
	r := wire.NewReader()
	feeds(t, r, []byte("xyz"), 0, none('x'))
	feeds(t, r, bin(0xA5), 1)
	feeds(t, r, bin(0x41), 0)
	feeds(t, r, status(), 0, sound(9))
}

func TestP1605Example8(t *testing.T) {
	b := status()
	b[11] = 0x38
	feeds(t, wire.NewReader(), b, 0, broken(b))
	b = status()
	b[3] = 1
	feeds(t, wire.NewReader(), b, 0, none(0xA5))
}

func TestP1604Example9(t *testing.T) {
	noReply(t, sound(128, 0, 0xFF, 0xFF, 0xFF), api.ErrBody)
	noReply(t, sound(128, 0, 0xFF, 0xFF, 0x7F, 0, 0, 0, 0), api.ErrBody)
}

func TestP1605Example10OfTheWhole(t *testing.T) {
	r := wire.NewReader()
	feeds(t, r, bin('x'), 0, none('x')) // as soon as no frame can begin there
	feeds(t, r, bin('y'), 0)
	feeds(t, r, bin('z'), 0)
}
