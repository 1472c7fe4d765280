package server

import (
	"trellis/api"
	"trellis/check"
	"trellis/syntax"
)

// submit: a program queues, under a number that is free.
func (s *Server) submit(q api.Request) api.Reply {
	if !isNumber(q.Nums[0]) {
		return coded(api.ErrArg)
	}
	id := int(q.Nums[0])
	if s.up.stat(id).State != 0 {
		return coded(api.ErrInside)
	}
	program, code, at := syntax.Program(q.Text)
	if code != api.OK {
		return coded(code, int64(at))
	}
	if number, err := check.Program(program); err != nil {
		return coded(api.Code(err), int64(number))
	}
	stamp, code := s.up.gate.Submit(id)
	if code != api.OK {
		return coded(code)
	}
	s.up.queue[id] = queued{stamp: stamp, program: program}
	s.up.enter()
	return told(stamp)
}

// pick: a transaction, or the sweeper, goes one step.
func (s *Server) pick(q api.Request) api.Reply {
	if q.Nums[0] == sweeper {
		_, code := s.turn(sweeper)
		return coded(code)
	}
	if !isNumber(q.Nums[0]) {
		return coded(api.ErrArg)
	}
	id := int(q.Nums[0])
	switch s.up.stat(id).State {
	case 0:
		return coded(api.ErrNoTxn)
	case api.SCommitted, api.SFailed:
		return coded(api.ErrDone)
	case api.SQueued:
		return toldStep(api.Step{What: api.TIdle})
	}
	step, code := s.turn(id)
	if code != api.OK {
		return coded(code)
	}
	return toldStep(step)
}

// toldStep: what a transaction's step was.
func toldStep(x api.Step) api.Reply {
	nums := []int64{int64(x.What), int64(x.Code)}
	nums = append(nums, counted(x.Woken)...)
	return told(append(nums, counted(x.Wounded)...)...)
}

// run: so many picks, of whom the gate names, as long as somebody is there.
func (s *Server) run(q api.Request) api.Reply {
	most := q.Nums[0]
	if most < 0 || most > api.MaxRun {
		return coded(api.ErrArg)
	}
	picks := int64(0)
	var ended []int64
	for picks < most && s.up.isBusy() {
		id := s.up.gate.Next()
		step, code := s.turn(id)
		if code != api.OK {
			return coded(code, append([]int64{picks}, ended...)...)
		}
		picks++
		switch step.What {
		case api.TCommitted:
			ended = append(ended, int64(id))
		case api.TFailed:
			ended = append(ended, -int64(id))
		}
	}
	return told(append([]int64{picks}, ended...)...)
}

// forget: the number of one that has ended is free again.
func (s *Server) forget(q api.Request) api.Reply {
	if !isNumber(q.Nums[0]) {
		return coded(api.ErrArg)
	}
	id := int(q.Nums[0])
	if s.up.stat(id).State == api.SQueued { // txn does not know it yet
		return coded(api.ErrInside)
	}
	return coded(s.up.txns.Forget(id))
}
