package txn

import (
	"slices"

	"trellis/api"
	"trellis/locks"
)

// claims: what one transaction has to do with the lock table.
type claims struct {
	table   *locks.Table
	number  int   // its own there
	wounded []int // who became wounded by it since that was told
}

// ask: a mode on a resource; api.ErrBlocked: it is not there yet.
func (c *claims) ask(r api.Res, mode int) api.Errno {
	state, wounded, code := c.table.Ask(c.number, r, mode)
	c.wounded = append(c.wounded, wounded...)
	if state == api.LWaits {
		return api.ErrBlocked
	}
	return code
}

// end: it holds and asks for nothing any more: the transactions that have got what they waited for by that.
func (c *claims) end() []int {
	woken, wounded, _ := c.table.End(c.number)
	c.wounded = append(c.wounded, wounded...)
	return woken
}

// tellWounded: those that became wounded since it was told last, rising.
func (c *claims) tellWounded() []int {
	out := c.wounded
	c.wounded = nil
	slices.Sort(out)
	return out
}

// isWounded: not where it is not in the table.
func (c *claims) isWounded() bool {
	is, _ := c.table.Wounded(c.number)
	return is
}

// readsUnder: does what it holds on the resource let it read all that is below?
func (c *claims) readsUnder(r api.Res) bool {
	mode, _ := c.table.Mode(c.number, r)
	return covers(mode, api.MS)
}

// covers: is the mode at least as strong as the other one?
func covers(mode, other int) bool { return locks.Joins(mode, other) == mode }

// intention: what must be asked for above a resource ahead of that mode on it.
func (c *claims) intention(r api.Res, mode int) int {
	if _, code := c.table.Mode(c.number, r); code == api.OK && covers(mode, api.MIX) {
		return api.MIX
	}
	return api.MIS
}
