package server

import (
	"trellis/api"
	"trellis/disk"
	"trellis/records"
	"trellis/wal"
)

// plan: what a DoFormat asks for.
type plan struct {
	sizes       api.Sizes
	units, most int
}

// planOf: the plan that the numbers of a DoFormat say; false: there can be no such store.
func planOf(nums []int64) (plan, bool) {
	tops := [...]int64{api.MaxPages, api.MaxPages, api.MaxPages, api.MaxPages, api.MaxUnits, api.MaxMost}
	for i, top := range tops {
		if nums[i] < 1 || nums[i] > top {
			return plan{}, false
		}
	}
	p := plan{
		sizes: api.Sizes{Node: int(nums[0]), Edge: int(nums[1]), Prop: int(nums[2]), Tree: int(nums[3])},
		units: int(nums[4]),
		most:  int(nums[5]),
	}
	return p, p.pages() <= api.MaxBatch && p.sectors() <= api.MaxSectors
}

// pages: those of the four kinds, and the root page.
func (p plan) pages() int {
	return 1 + p.sizes.Node + p.sizes.Edge + p.sizes.Prop + p.sizes.Tree
}

// log: the log's sectors: its two heads, and room for the units.
func (p plan) log() int { return 2 + p.units*unit(p.pages()) }

// sectors: the disk's: the label, the log, and a home for each page.
func (p plan) sectors() int { return 1 + p.log() + p.pages() }

// unit: the log's sectors for the greatest commit of a store of so many pages: a count, then each page with its number.
func unit(pages int) int { return wal.Need(2 + (2+api.PageBytes)*pages) }

// format: a new disk with an empty store, whatever was there.
func (s *Server) format(q api.Request) api.Reply {
	p, ok := planOf(q.Nums)
	if !ok {
		return coded(api.ErrArg)
	}
	d, _ := disk.New(p.sectors()) // a new disk has power, and the plan fits it: none of these fails
	records.Format(d, p.log(), p.sizes)
	store, _ := records.Open(d)
	s.disk, s.units, s.most = d, p.units, p.most
	s.rise(store)
	return told(int64(p.sectors()))
}

// open: the store that is on the disk.
func (s *Server) open(api.Request) api.Reply {
	switch {
	case s.disk == nil:
		return coded(api.ErrNoStore)
	case s.up != nil:
		return coded(api.ErrUp)
	}
	store, code := records.Open(s.disk)
	if code != api.OK {
		return coded(code)
	}
	found := store.Stat()
	if !s.hasRoom(found) {
		return coded(api.ErrCap)
	}
	if _, code := store.Checkpoint(api.MaxPages); code != api.OK {
		return coded(code)
	}
	commits, _ := store.Commits()
	s.rise(store)
	return told(commits, int64(found.Redone))
}

// hasRoom: has the log of such a store room for the units? (A store of more pages than a commit may have has no unit.)
func (s *Server) hasRoom(of api.PageStat) bool {
	log := of.Log.Live + of.Log.Reserved + of.Log.Free
	return of.Pages <= api.MaxBatch && log >= s.units*unit(of.Pages)
}

// cut: the power goes behind so many writes and flushes.
func (s *Server) cut(q api.Request) api.Reply {
	n := q.Nums[0]
	switch {
	case s.disk == nil:
		return coded(api.ErrNoStore)
	case n < 0 || n > api.MaxRun:
		return coded(api.ErrArg)
	}
	return coded(s.disk.Cut(int(n)))
}

// crash: the disk loses what was not flushed and is not kept; the power is back.
func (s *Server) crash(q api.Request) api.Reply {
	if s.disk == nil {
		return coded(api.ErrNoStore)
	}
	s.disk.Crash(q.Bits)
	s.up = nil
	return told()
}
