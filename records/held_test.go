package records_test

import (
	"testing"

	"trellis/api"
	"trellis/records"
)

// roomOf: the log's sectors of a commit of so many pages.
func roomOf(pages int) int { return (2 + 122*pages + 103) / 104 }

// reserved: so many sectors are set aside.
func reserved(t *testing.T, s *records.Store, want int) {
	t.Helper()
	if got := s.Stat().Log.Reserved; got != want {
		t.Errorf("%d sectors are set aside, want %d", got, want)
	}
}

// TestP707Refused: each write set that is refused gives back what was set aside for it, whether there was so much or not.
func TestP707Refused(t *testing.T) {
	d, s := grown(t, 400, wide, rich)
	room := roomOf(pagesOf(wide))
	for _, c := range []struct {
		x    api.Delta
		want api.Errno
	}{
		{api.Delta{DelEdges: list[int64](0)}, api.ErrDelta}, {api.Delta{NewNodes: list(nd(-1, ""))}, api.ErrName}, {api.Delta{NewNodes: list(nd(-1, "a", pr("a", null)))}, api.ErrProps},
		{api.Delta{DelEdges: list[int64](9)}, api.ErrNoEdge}, {api.Delta{DelNodes: list[int64](9)}, api.ErrNoNode}, {api.Delta{DelNodes: list[int64](1)}, api.ErrHasEdges}, {nodesOf(99), api.ErrFull}, {api.Delta{}, api.OK},
	} {
		wants(t, "Reserve", s.Reserve(), api.OK)
		wants(t, "Reserve", s.Reserve(), api.OK)
		reserved(t, s, 2*room)
		a, code := s.Apply(c.x, true, true)
		wants(t, "Apply", code, c.want)
		same(t, "Apply", a, api.Applied{})
		reserved(t, s, room)
		_, code = s.Apply(c.x, false, true)
		wants(t, "Apply", code, c.want)
		reserved(t, s, room)
		wants(t, "Release", s.Release(), api.OK)
		still := unmoved(t, d, s)
		_, code = s.Apply(c.x, true, true)
		if c.want == api.OK { // of nothing: Release's answer is told
			c.want = api.ErrReserve
		}
		wants(t, "Apply with nothing set aside", code, c.want)
		still()
	}
}

// TestP707Carried: a write set that is applied gives it back by its commit.
func TestP707Carried(t *testing.T) {
	_, s := grown(t, 400, wide, rich)
	room := roomOf(pagesOf(wide))
	wants(t, "Reserve", s.Reserve(), api.OK)
	wants(t, "Reserve", s.Reserve(), api.OK)
	live := s.Stat().Log.Live
	_, code := s.Apply(nodesOf(1), true, true)
	wants(t, "Apply", code, api.OK)
	reserved(t, s, room)
	if got := s.Stat().Log.Live; got != live+roomOf(2) {
		t.Errorf("the write set took %d sectors, want those of two pages", got-live)
	}
	_, code = s.Apply(nodesOf(1), false, true)
	wants(t, "Apply", code, api.OK)
	reserved(t, s, room)
}

// TestP706NoRoom: the errors of the commit are the answer, and nothing has changed.
func TestP706NoRoom(t *testing.T) {
	d, s := grown(t, 12, wide)
	refusedHeld := func(want api.Errno) {
		t.Helper()
		still := unmoved(t, d, s)
		a, code := s.Apply(nodesOf(1), true, true)
		wants(t, "Apply", code, want)
		same(t, "Apply", a, api.Applied{})
		still()
	}
	refusedHeld(api.ErrReserve)
	for range 3 {
		applies(t, s, nodesOf(1), list(int64(len(must(s.Nodes("")))+1)), nil)
	}
	refuses(t, d, s, nodesOf(1), api.ErrLogFull)
	refusedHeld(api.ErrReserve)
	_, code := s.Checkpoint(9)
	wants(t, "Checkpoint", code, api.OK)
	applies(t, s, nodesOf(1), list[int64](4), nil)
}

// TestP706Power: the power goes in the commit; the store is dead.
func TestP706Power(t *testing.T) {
	for _, held := range []bool{false, true} {
		d, s := grown(t, 200, wide, rich)
		if held {
			wants(t, "Reserve", s.Reserve(), api.OK)
		}
		d.Cut(1)
		a, code := s.Apply(nodesOf(2), held, true)
		wants(t, "Apply", code, api.ErrPower)
		same(t, "Apply", a, api.Applied{})
		_, code = s.Commits()
		wants(t, "Commits", code, api.ErrPower)
	}
}

// TestP713Below: Checkpoint, Sync, Reserve, Release and Stat are the slots store's.
func TestP713Below(t *testing.T) {
	d, _ := grown(t, 150, wide, rich)
	image := d.Image()
	d, other := loaded(t, image), loaded(t, image)
	s, b := opens(t, d), belowOn(t, other)
	agree := func(what string, got, want any) {
		t.Helper()
		same(t, what, got, want)
		same(t, "Stat", s.Stat(), b.Stat())
		same(t, "the disk's Stat", d.Stat(), other.Stat())
	}
	agree("Stat", s.Stat(), b.Stat())
	for _, most := range []int{-1, 0, 1, 2} {
		n, code := s.Checkpoint(most)
		m, want := b.Checkpoint(most)
		agree("Checkpoint", list[any](n, code), list[any](m, want))
	}
	agree("Sync", s.Sync(), b.Sync())
	for range 3 {
		agree("Reserve", s.Reserve(), b.Reserve())
	}
	for range 3 {
		agree("Release", s.Release(), b.Release())
	}
	d.Cut(0)
	other.Cut(0)
	for _, most := range []int{99, 99, -1} {
		n, code := s.Checkpoint(most)
		m, want := b.Checkpoint(most)
		agree("Checkpoint", list[any](n, code), list[any](m, want))
	}
	agree("Sync", s.Sync(), b.Sync())
	agree("Reserve", s.Reserve(), b.Reserve())
	agree("Release", s.Release(), b.Release())
}
