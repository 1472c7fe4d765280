package server

import "trellis/api"

// deed: what a request does to a server, and what is told of it.
type deed func(*Server, api.Request) api.Reply

// deeds: what each kind of request does.
func deeds() map[int]deed {
	return map[int]deed{
		api.DoFormat: (*Server).format,
		api.DoOpen:   (*Server).open,
		api.DoSubmit: (*Server).submit,
		api.DoPick:   (*Server).pick,
		api.DoRun:    (*Server).run,
		api.DoCut:    (*Server).cut,
		api.DoCrash:  (*Server).crash,
		api.DoResult: (*Server).result,
		api.DoStatus: (*Server).status,
		api.DoDump:   (*Server).dump,
		api.DoWaits:  (*Server).waits,
		api.DoForget: (*Server).forget,
	}
}

// needsUp: the kinds of requests that a server which is not up refuses, whatever their numbers are.
var needsUp = [api.DoForget + 1]bool{
	api.DoSubmit: true,
	api.DoPick:   true,
	api.DoRun:    true,
	api.DoResult: true,
	api.DoDump:   true,
	api.DoWaits:  true,
	api.DoForget: true,
}

// done: the request is done: what is told of it.
func (s *Server) done(q api.Request) api.Reply {
	if s.up == nil && needsUp[q.Kind] {
		return coded(api.ErrDown)
	}
	return deeds()[q.Kind](s, q)
}

// told: the reply of a request that went well.
func told(nums ...int64) api.Reply { return api.Reply{Nums: nums} }

// coded: the reply with that code, which may be OK.
func coded(code api.Errno, nums ...int64) api.Reply { return api.Reply{Code: code, Nums: nums} }

// counted: a list of numbers, as it is told: how many there are, then these.
func counted(list []int) []int64 {
	out := []int64{int64(len(list))}
	for _, n := range list {
		out = append(out, int64(n))
	}
	return out
}
