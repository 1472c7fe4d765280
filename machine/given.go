package machine

import (
	"slices"

	"trellis/api"
	"trellis/value"
)

// given: what a part makes of its rows.
type given struct {
	items       []item
	once        bool
	order       []key
	skip, limit int // below 0: none
	where       worth
}

// item: a column. With aggregates its worth is that in a row of what these are worth.
type item struct {
	worth      worth
	aggregates []aggregate
}

// key: a column by which the rows are ordered.
type key struct {
	column int
	desc   bool
}

func (s scope) given(p api.Part, columns scope) given {
	g := given{once: p.Once, skip: p.Skip, limit: p.Limit, where: columns.condition(p.Where)}
	for _, i := range p.Items {
		c := compiler{scope: s}
		of := c.worth(i.Expr)
		g.items = append(g.items, item{of, c.aggregates})
	}
	for _, k := range p.Order {
		column := k.Col - 1
		if k.Name != "" {
			column = columns[k.Name]
		}
		g.order = append(g.order, key{column, k.Desc})
	}
	return g
}

// give: the rows of columns that there are in the end.
func (g given) give(r *run, rows []row) ([]row, api.Errno) {
	out, code := g.columns(r, rows)
	if code != api.OK {
		return nil, code
	}
	if g.once {
		out = firsts(out, tupleOf)
	}
	slices.SortStableFunc(out, g.compare)
	return r.filter(g.cut(out), g.where)
}

// columns: the rows of columns, one for each row, or one for each group of rows.
func (g given) columns(r *run, rows []row) ([]row, api.Errno) {
	if slices.ContainsFunc(g.items, func(i item) bool { return len(i.aggregates) > 0 }) {
		return g.grouped(r, rows)
	}
	items := g.keys()
	return each(rows, func(x row) (row, api.Errno) { return r.values(items, x) })
}

// keys: the items without aggregates.
func (g given) keys() []worth {
	var out []worth
	for _, i := range g.items {
		if len(i.aggregates) == 0 {
			out = append(out, i.worth)
		}
	}
	return out
}

// tuple: a row of columns that can be a key of a map; what it does not have is null.
type tuple [api.MaxItems]api.Val

func tupleOf(cols row) tuple {
	var t tuple
	copy(t[:], cols)
	return t
}

// firsts: the list without those that are the same as an earlier one.
func firsts[T any, K comparable](list []T, same func(T) K) []T {
	met := map[K]struct{}{}
	var out []T
	for _, x := range list {
		k := same(x)
		if _, again := met[k]; !again {
			met[k] = struct{}{}
			out = append(out, x)
		}
	}
	return out
}

// compare: which of two rows of columns stands ahead.
func (g given) compare(a, b row) int {
	for _, k := range g.order {
		c := value.Compare(a[k.column], b[k.column])
		if k.desc {
			c = -c
		}
		if c != 0 {
			return c
		}
	}
	return 0
}

// cut: the rows that skip and limit leave.
func (g given) cut(rows []row) []row {
	if g.skip > 0 {
		rows = rows[min(g.skip, len(rows)):]
	}
	if g.limit >= 0 {
		rows = rows[:min(g.limit, len(rows))]
	}
	return rows
}

// filter: the rows in which the condition is true.
func (r *run) filter(rows []row, condition worth) ([]row, api.Errno) {
	var out []row
	for _, x := range rows {
		stays, code := r.holds(condition, x)
		if code != api.OK {
			return nil, code
		}
		if stays {
			out = append(out, x)
		}
	}
	return out, api.OK
}
