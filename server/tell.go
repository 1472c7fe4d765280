package server

import "trellis/api"

// result: where a transaction stands, and one of its tables.
func (s *Server) result(q api.Request) api.Reply {
	k := q.Nums[1]
	if !isNumber(q.Nums[0]) || k < -1 {
		return coded(api.ErrArg)
	}
	id := int(q.Nums[0])
	stat := s.up.stat(id)
	if stat.State == 0 {
		return coded(api.ErrNoTxn)
	}
	tables, _ := s.up.txns.Tables(id) // of one that is queued: none
	if k >= int64(len(tables)) {
		return coded(api.ErrTable)
	}
	wounded := int64(0)
	if is, _ := s.up.txns.Wounded(id); is {
		wounded = 1
	}
	r := told(int64(stat.State), int64(stat.Code), int64(stat.Done), int64(stat.Backs), stat.Stamp, wounded)
	if k >= 0 {
		r.Tables = tables[k : k+1]
	}
	return r
}

// What a server can be, as DoStatus tells it.
const (
	withoutStore = iota
	isDown
	isUp
)

// status: what the server is, and who is there.
func (s *Server) status(api.Request) api.Reply {
	switch {
	case s.disk == nil:
		return told(withoutStore, 0, 0, 0)
	case s.up == nil:
		return told(isDown, 0, 0, 0)
	}
	commits, _ := s.up.store.Commits()
	now := s.up.gate.Stat()
	nums := append([]int64{isUp, commits}, counted(now.Inside)...)
	return told(append(nums, counted(now.Queue)...)...)
}

// dump: the whole graph.
func (s *Server) dump(api.Request) api.Reply {
	graph, code := s.up.store.Graph()
	return api.Reply{Code: code, Graph: graph}
}

// waits: who waits for whom, and for what.
func (s *Server) waits(api.Request) api.Reply {
	var r api.Reply
	for _, w := range s.up.txns.Waits() {
		r.Nums = append(r.Nums, int64(w.From), int64(w.To), int64(w.Res.Level), w.Res.Id)
		r.Texts = append(r.Texts, w.Res.Label)
	}
	return r
}
