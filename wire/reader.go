package wire

import (
	"bytes"

	"trellis/api"
)

// Reader: what has come in and is no whole frame yet.
type Reader struct {
	rest []byte // what came and was not used up
	lost bool   // a byte was bad, and no head has been found since
}

// NewReader: nothing has come in.
func NewReader() *Reader {
	return &Reader{}
}

// Feed: more bytes: the frames that are whole now.
func (r *Reader) Feed(b []byte) []api.Frame {
	if r == nil {
		return nil
	}
	r.rest = append(r.rest, b...)
	frames := make(chan api.Frame)
	go r.split(frames)
	var given []api.Frame
	for f := range frames {
		given = append(given, f)
	}
	return given
}

// Left: how many bytes are kept for later.
func (r *Reader) Left() int {
	if r == nil {
		return 0
	}
	return len(r.rest)
}

// split: sends what the bytes give, keeps those that are not used up, and closes the channel as its last act: till then nobody else touches the reader.
func (r *Reader) split(frames chan<- api.Frame) {
	defer close(frames)
	used := 0
	for {
		f, n, gives := r.take(r.rest[used:])
		if gives {
			frames <- f
		}
		if n == 0 {
			break
		}
		used += n
	}
	if used > 0 { // new memory, so that a long piece is not kept for the sake of its end
		r.rest = bytes.Clone(r.rest[used:])
	}
}

// take: what the front of b gives, if it gives something, and how many bytes it uses up: none if more must come.
func (r *Reader) take(b []byte) (f api.Frame, used int, gives bool) {
	switch frontOf(b) {
	case badByte:
		gives = !r.lost
		r.lost = true
		if gives {
			f = api.Frame{Code: api.ErrFrame, Body: []byte{b[0]}}
		}
		return f, 1, gives
	case soundHead:
		r.lost = false
		size := headSize + bodySize(b) + tailSize
		if len(b) >= size {
			return read(b[:size]), size, true
		}
	}
	return f, 0, false
}

// What can stand at the front of bytes.
const (
	tooFew    = iota // more must come to tell
	badByte          // one that begins no frame
	soundHead        // a head whose length can be believed
)

// frontOf: what stands at the front of b.
func frontOf(b []byte) int {
	switch {
	case len(b) == 0:
		return tooFew
	case b[0] != firstMark || len(b) > 1 && b[1] != secondMark:
		return badByte
	case len(b) < headSize:
		return tooFew
	case b[2] == 0 || bodySize(b) > api.MaxBody || headSum(b) != [2]byte(b[6:headSize]):
		return badByte
	}
	return soundHead
}

// read: the frame of which b has all bytes, behind a sound head.
func read(b []byte) api.Frame {
	end := len(b) - tailSize
	if wholeSum(b[:end]) != [tailSize]byte(b[end:]) {
		return api.Frame{Code: api.ErrSum, Body: bytes.Clone(b)}
	}
	return api.Frame{Kind: int(b[2]), Body: bytes.Clone(b[headSize:end])}
}
