package pages_test

import (
	"testing"

	"trellis/api"
)

func TestP409Example1(t *testing.T) {
	_, s := made(t)
	stands(t, s, api.PageStat{Pages: 20, Log: api.LogStat{Head: 1, Next: 1, Durable: 1, Free: 10}})
	holds(t, s, 3, full(0))
	unread(t, s, 20, api.ErrPage)
	unread(t, s, -1, api.ErrPage)
}

func TestP405Example2(t *testing.T) {
	for mask := range 8 {
		d, s := made(t)
		commits(t, s, batch(image(3, 7), image(1, 9)), 0, false, 1)
		holds(t, s, 3, full(7))
		stands(t, s, api.PageStat{Pages: 20, Commits: 1, Dirty: 2, Oldest: 1, Log: logOf(10, 1, 4, 1, 0)})
		d.Crash([]bool{mask&1 > 0, mask&2 > 0, mask&4 > 0})
		three, one := full(0), full(0)
		if mask == 7 {
			three, one = full(7), full(9)
		}
		s = opens(t, d)
		holds(t, s, 3, three)
		holds(t, s, 1, one)
	}
}

func TestP407Examples3And4(t *testing.T) {
	d, s := made(t)
	commits(t, s, batch(image(3, 7), image(1, 9)), 0, true, 1)
	c := copied(t, d)
	c.Crash(nil)
	found := opens(t, c)
	holds(t, found, 3, full(7))
	holds(t, found, 1, full(9))
	commits(t, s, batch(image(3, 8)), 0, true, 4)
	settles(t, s, 1, 1)
	stands(t, s, api.PageStat{Pages: 20, Commits: 2, Dirty: 1, Oldest: 1, Log: logOf(10, 1, 6, 6, 0)})
	if b, _ := d.Read(13 + 1); string(b) != string(homeOf(1, full(9))) {
		t.Errorf("the home of page 1 is % x", b)
	}
	if b, _ := d.Read(13 + 3); string(b) != string(homeOf(3, full(0))) {
		t.Errorf("the home of page 3 is % x", b)
	}
	settles(t, s, 5, 1)
	if b, _ := d.Read(13 + 3); string(b) != string(homeOf(3, full(8))) {
		t.Errorf("the home of page 3 is % x", b)
	}
	stands(t, s, api.PageStat{Pages: 20, Commits: 2, Log: logOf(10, 6, 6, 6, 0)})
}

func TestP405Example5(t *testing.T) {
	_, s := made(t)
	rejects(t, s, nil, 0, api.ErrBatch)
	rejects(t, s, batch(image(2, 1), image(2, 1)), 0, api.ErrPage)
	rejects(t, s, batch(api.PageImage{Page: 2, Data: full(1)[:119]}), 0, api.ErrBatch)
	rejects(t, s, batch(api.PageImage{Page: 99, Data: full(1)[:119]}), 0, api.ErrBatch)
	rejects(t, s, run(0, 2, 1), 1, api.ErrArg)
	rejects(t, s, run(0, 2, 1), 2, api.ErrReserve)
}

func TestP408Example6(t *testing.T) {
	_, s := made(t)
	wants(t, "Reserve(2)", s.Reserve(2), api.OK)
	stands(t, s, api.PageStat{Pages: 20, Log: logOf(10, 1, 1, 1, 3)})
	commits(t, s, run(0, 1, 1), 2, false, 1)
	stands(t, s, api.PageStat{Pages: 20, Commits: 1, Dirty: 1, Oldest: 1, Log: logOf(10, 1, 3, 1, 0)})
	wants(t, "Reserve(8)", s.Reserve(8), api.ErrLogFull)
	wants(t, "Release(1)", s.Release(1), api.ErrReserve)
}

func TestP413Example7(t *testing.T) {
	_, s := made(t)
	commits(t, s, run(0, 5, 1), 0, false, 1)
	rejects(t, s, run(0, 5, 2), 0, api.ErrLogFull)
	settles(t, s, 5, 5)
	commits(t, s, run(0, 5, 2), 0, false, 7)
}

func TestP410Example8(t *testing.T) {
	for mask := range 4 {
		d, s := made(t)
		d.Cut(2)
		loses(t, s, run(0, 1, 5), 0, true)
		unread(t, s, 0, api.ErrPower)
		unread(t, s, 99, api.ErrPage)
		d.Crash([]bool{mask&1 > 0, mask&2 > 0})
		want := full(0)
		if mask == 3 {
			want = full(5)
		}
		holds(t, opens(t, d), 0, want)
	}
}
