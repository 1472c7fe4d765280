package wire

import "trellis/api"

// takes: how many numbers a request of each kind has; there is no kind 0.
var takes = [api.DoForget + 1]int{0, 6, 0, 1, 1, 1, 1, 0, 2, 0, 0, 0, 1}

// asks: is that a kind of requests?
func asks(kind int) bool {
	return kind >= api.DoFormat && kind <= api.DoForget
}

// answers: can a reply be to that? (0: to no request.)
func answers(to int) bool {
	return to == 0 || asks(to)
}

// requestMayBeSent: has a request of a kind that there is what its kind has, and no more?
func requestMayBeSent(q api.Request) bool {
	return len(q.Nums) == takes[q.Kind] &&
		(q.Text == "" || q.Kind == api.DoSubmit) &&
		(len(q.Bits) == 0 || q.Kind == api.DoCrash) && len(q.Bits) <= api.MaxBits
}

// replyMayBeSent: the same of a reply, but for its values, which are looked at one by one as they are written or read.
func replyMayBeSent(r api.Reply) bool {
	return len(r.Nums) <= api.MaxNums
}
