package locks_test

import (
	"cmp"
	"fmt"
	"slices"

	"trellis/api"
)

// request: one of a book's queues.
type request struct {
	txn, goal int
	upgrade   bool
}

// book: a table, reckoned a second time: by the chapter's words one by one, with all sweeps over the whole table.
type book struct {
	stamps   map[int]int64
	held     map[api.Res]map[int]int
	queues   map[api.Res][]request
	wounders map[int]map[int]int
}

func newBook() *book {
	return &book{stamps: map[int]int64{}, held: map[api.Res]map[int]int{}, queues: map[api.Res][]request{}, wounders: map[int]map[int]int{}}
}

func fit(a, b int) bool { return fitting[6*(a-1)+b-1] == 'y' }

func (b *book) begin(txn int, stamp int64) api.Errno {
	if txn < 1 || stamp < 1 {
		return api.ErrArg
	}
	for n, s := range b.stamps {
		if n == txn || s == stamp {
			return api.ErrTxn
		}
	}
	b.stamps[txn], b.wounders[txn] = stamp, map[int]int{}
	return api.OK
}

// inWay: who stands in the way of a request of r with those ahead.
func (b *book) inWay(r api.Res, q request, ahead []request) []int {
	var out []int
	for _, txn := range b.live() {
		stands := b.held[r][txn] != 0 && !fit(b.held[r][txn], q.goal)
		for _, other := range ahead {
			stands = stands || other.txn == txn && !fit(other.goal, q.goal)
		}
		if stands && txn != q.txn {
			out = append(out, txn)
		}
	}
	return out
}

func (b *book) live() []int {
	var out []int
	for txn := range b.stamps {
		out = append(out, txn)
	}
	slices.Sort(out)
	return out
}

// request: where a transaction's request stands: on which resource, at which place of its queue; -1: it has none.
func (b *book) request(txn int) (api.Res, int) {
	for r, queue := range b.queues {
		for i, q := range queue {
			if q.txn == txn {
				return r, i
			}
		}
	}
	return api.Res{}, -1
}

func (b *book) ask(txn int, r api.Res, mode int) (int, []int, api.Errno) {
	_, at := b.request(txn)
	switch {
	case b.stamps[txn] == 0:
		return 0, nil, api.ErrTxn
	case !slices.Contains(asked, r):
		return 0, nil, api.ErrRes
	case !isMode(mode):
		return 0, nil, api.ErrMode
	case at >= 0:
		return 0, nil, api.ErrQueued
	}
	if b.held[r] == nil {
		b.held[r] = map[int]int{}
	}
	now := b.held[r][txn]
	q := request{txn: txn, goal: joinOf(now, mode), upgrade: now != 0}
	if q.goal == now {
		return api.LGranted, nil, api.OK
	}
	queue := b.queues[r]
	ahead := len(queue)
	if q.upgrade {
		ahead = 0
		for _, other := range queue {
			if other.upgrade {
				ahead++
			}
		}
	}
	answer := api.LGranted
	if len(b.inWay(r, q, queue[:ahead])) == 0 {
		b.held[r][txn] = q.goal
	} else {
		answer = api.LWaits
		b.queues[r] = slices.Insert(slices.Clone(queue), ahead, q)
	}
	return answer, b.woundSweep(), api.OK
}

func (b *book) end(txn int) ([]int, []int, api.Errno) {
	if b.stamps[txn] == 0 {
		return nil, nil, api.ErrTxn
	}
	for r := range b.held {
		delete(b.held[r], txn)
		b.queues[r] = slices.DeleteFunc(b.queues[r], func(q request) bool { return q.txn == txn })
	}
	delete(b.stamps, txn)
	delete(b.wounders, txn)
	return b.grantSweep(), b.woundSweep(), api.OK
}

func (b *book) grantSweep() []int {
	order := slices.Clone(asked)
	slices.SortFunc(order, func(x, y api.Res) int {
		return cmp.Or(x.Level-y.Level, cmp.Compare(x.Label, y.Label), cmp.Compare(x.Id, y.Id))
	})
	var granted []int
	for _, r := range order {
		var rest []request
		for _, q := range b.queues[r] {
			if len(b.inWay(r, q, rest)) > 0 {
				rest = append(rest, q)
				continue
			}
			b.held[r][q.txn] = q.goal
			granted = append(granted, q.txn)
		}
		b.queues[r] = rest
	}
	return granted
}

func (b *book) woundSweep() []int {
	byAge := b.live()
	slices.SortFunc(byAge, func(x, y int) int { return cmp.Compare(b.stamps[x], b.stamps[y]) })
	var out []int
	for _, txn := range byAge {
		r, at := b.request(txn)
		if at < 0 || len(b.wounders[txn]) > 0 {
			continue
		}
		for _, u := range b.inWay(r, b.queues[r][at], b.queues[r][:at]) {
			if b.stamps[u] < b.stamps[txn] {
				continue
			}
			if len(b.wounders[u]) == 0 {
				out = append(out, u)
			}
			b.wounders[u][txn]++
		}
	}
	slices.Sort(out)
	return out
}

// told: all that a table tells, as told(x) writes it.
func (b *book) told() string {
	var pairs []api.Wait
	for _, txn := range b.live() {
		r, at := b.request(txn)
		if at < 0 || len(b.wounders[txn]) > 0 {
			continue
		}
		for _, u := range b.inWay(r, b.queues[r][at], b.queues[r][:at]) {
			pairs = append(pairs, api.Wait{From: txn, To: u, Res: r})
		}
	}
	out := fmt.Sprintln(b.live(), pairs)
	for _, r := range asked {
		var holders, queue []api.Held
		for _, txn := range b.live() {
			if m := b.held[r][txn]; m != 0 {
				holders = append(holders, held(txn, m))
			}
		}
		for _, q := range b.queues[r] {
			queue = append(queue, held(q.txn, q.goal))
		}
		out += fmt.Sprintln(r, holders, queue)
	}
	for _, txn := range b.live() {
		r, at := b.request(txn)
		goal := 0
		if at >= 0 {
			goal = b.queues[r][at].goal
		}
		var by []int
		for n := range b.wounders[txn] {
			by = append(by, n)
		}
		slices.Sort(by)
		out += fmt.Sprintln(txn, r, goal, api.OK, by, api.OK, len(by) > 0, api.OK)
		for _, r := range asked {
			out += fmt.Sprint(b.held[r][txn], api.OK, " ")
		}
	}
	return out
}
