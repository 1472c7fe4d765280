package check

import (
	"strconv"

	"trellis/api"
)

// fault: why something makes no sense, in words, around the number that tells it to programs.
type fault struct {
	code api.Errno
	why  string
}

func (f fault) Error() string { return f.why + ": " + f.code.Error() }

// Unwrap: the api.Errno, for errors.Is and errors.As.
func (f fault) Unwrap() error { return f.code }

// ofQuery: the same fault, which also says in which query of a program it was met.
func (f fault) ofQuery(number int) error {
	return fault{f.code, "query " + strconv.Itoa(number) + ": " + f.why}
}

// faultOf: nil, if the number is none of an error.
func faultOf(code api.Errno, why string) error {
	if code == api.OK {
		return nil
	}
	return fault{code, why}
}

// faultIf: the fault, if it is one.
func faultIf(wrong bool, code api.Errno, why string) error {
	if wrong {
		return fault{code, why}
	}
	return nil
}
