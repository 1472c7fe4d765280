package pages

import (
	"cmp"
	"slices"
)

// cache: what pages hold that are in the log alone. A page is in it from the first record that has it on, until it was written home.
type cache[T any] map[int]entry[T]

// entry: what a page holds, and its first: the lsn of the first record that has it since it was clean.
type entry[T any] struct {
	first int64
	held  T
}

// mark: a page that is in the log alone, and its first.
type mark struct {
	first int64
	page  int
}

// put: the page holds that from the record at lsn on. Its first stays, if it is there already: the home still lacks what that record has.
func (c cache[T]) put(page int, lsn int64, held T) {
	first := lsn
	if e, ok := c[page]; ok {
		first = e.first
	}
	c[page] = entry[T]{first: first, held: held}
}

// order: the pages, by their firsts, and those with the same first by their numbers.
func (c cache[T]) order() []mark {
	out := make([]mark, 0, len(c))
	for page, e := range c {
		out = append(out, mark{first: e.first, page: page})
	}
	slices.SortFunc(out, func(a, b mark) int {
		return cmp.Or(cmp.Compare(a.first, b.first), cmp.Compare(a.page, b.page))
	})
	return out
}

// oldest: the least first of all; 0, if there is none.
func (c cache[T]) oldest() int64 {
	least := int64(0)
	for _, e := range c {
		if least == 0 || e.first < least {
			least = e.first
		}
	}
	return least
}
