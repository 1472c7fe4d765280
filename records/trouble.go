package records

import "trellis/api"

// trouble: what the inner functions give up with: a record that cannot be read, or a write set that the graph does not bear.
type trouble struct {
	code api.Errno
}

// check: gives up where there is an error.
func check(code api.Errno) {
	if code != api.OK {
		panic(trouble{code})
	}
}

// must: the result of a call that has no error; else it gives up.
func must[T any](out T, code api.Errno) T {
	check(code)
	return out
}

// caught: what the work answers, or the error with which it gave up. Every face that reads records goes through it, so that no panic leaves a call.
func caught[T any](work func() T) (out T, code api.Errno) {
	defer func() {
		if why := recover(); why != nil {
			code = why.(trouble).code
		}
	}()
	return work(), api.OK
}
