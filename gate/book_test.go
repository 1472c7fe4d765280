package gate_test

import (
	"fmt"
	"slices"

	"trellis/api"
)

// guest: a number with its stamp and, once it is inside, its last turn.
type guest struct {
	id          int
	stamp, last int64
}

// book: a gate, reckoned by the chapter's words: plain lists, gone through from end to end.
type book struct {
	most, units   int
	stamp, clock  int64
	queue, inside []guest
	logged        int
	swept         int64 // the sweeper's last turn
}

// twin: a book of its own with the same content.
func (b book) twin() book {
	b.queue, b.inside = slices.Clone(b.queue), slices.Clone(b.inside)
	return b
}

// numbers: the numbers of guests, in their order.
func numbers(of []guest) []int {
	var out []int
	for _, x := range of {
		out = append(out, x.id)
	}
	return out
}

func (b *book) submit(id int) (int64, api.Errno) {
	switch {
	case id < 1 || id > 1073741824:
		return 0, api.ErrArg
	case slices.Contains(numbers(b.queue), id) || slices.Contains(numbers(b.inside), id):
		return 0, api.ErrInside
	case len(b.queue)+len(b.inside) == 64:
		return 0, api.ErrCrowd
	}
	b.stamp++
	b.queue = append(b.queue, guest{id: id, stamp: b.stamp})
	return b.stamp, api.OK
}

func (b *book) admit() []int {
	var out []int
	for len(b.queue) > 0 && len(b.inside) < b.most && b.logged+len(b.inside) < b.units {
		x := b.queue[0]
		x.last = b.clock
		b.queue, b.inside = b.queue[1:], append(b.inside, x)
		out = append(out, x.id)
	}
	return out
}

func (b *book) end(id int, logged bool) api.Errno {
	i := slices.Index(numbers(b.inside), id)
	if i < 0 {
		return api.ErrAway
	}
	b.inside = slices.Concat(b.inside[:i], b.inside[i+1:])
	if logged {
		b.logged++
	}
	return api.OK
}

func (b *book) next() int {
	least := b.swept
	for _, x := range b.inside {
		least = min(least, x.last)
	}
	out, stamp := 0, b.stamp+1
	for _, x := range b.inside {
		if x.last == least && x.stamp < stamp {
			out, stamp = x.id, x.stamp
		}
	}
	return out
}

func (b *book) picked(id int) api.Errno {
	i := slices.Index(numbers(b.inside), id)
	if id != 0 && i < 0 {
		return api.ErrAway
	}
	b.clock++
	if id == 0 {
		b.swept = b.clock
	} else {
		b.inside[i].last = b.clock
	}
	return api.OK
}

func (b *book) stat() api.GateStat {
	return api.GateStat{Inside: numbers(b.inside), Queue: numbers(b.queue), Logged: b.logged, Units: b.units, Most: b.most}
}

// The calls of a gate.
const (
	submit = iota
	admit
	end
	endLogged
	swept
	next
	picked
	stat
	calls // how many there are
)

// call: one call of a gate, with its argument, if it has one.
type call struct{ what, id int }

// house: what a gate and its book both are.
type house interface {
	do(c call) string
}

// do: makes a call of the book, and tells what it answers.
func (b *book) do(c call) string {
	switch c.what {
	case submit:
		return fmt.Sprint(b.submit(c.id))
	case admit:
		return fmt.Sprint(b.admit())
	case end, endLogged:
		return fmt.Sprint(b.end(c.id, c.what == endLogged))
	case swept:
		b.logged = 0
		return ""
	case next:
		return fmt.Sprint(b.next())
	case picked:
		return fmt.Sprint(b.picked(c.id))
	}
	return fmt.Sprint(b.stat())
}
