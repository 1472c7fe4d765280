package value_test

import (
	"slices"
	"testing"

	"trellis/api"
	"trellis/value"
)

// inOrder: each value ahead of all that stand behind it.
func inOrder() []api.Val {
	return []api.Val{
		node(least), node(-256), node(-1), node(1), node(7), node(most),
		edge(least), edge(-2), edge(-1), edge(1), edge(300), edge(most),
		str(""), str("\x00"), str("\x00\x00"), str("\x00a"), str("\x01"), str("B"), str("a"), str("a\x00"), str("ab"), str("abc"), str("b"), str("é"), str("\uffff"), str("😀"),
		no, yes,
		whole(least), whole(-part - 1), whole(-part), cpx(-part, -part), cpx(-part, part), whole(-257), whole(-256), whole(-1), cpx(-1, -part), cpx(-1, -1), cpx(-1, 0), cpx(-1, 1),
		whole(0), cpx(0, -1), cpx(0, 0), cpx(0, 255), cpx(0, 256), whole(2), cpx(2, -1), cpx(2, 5), whole(3), cpx(3, -5), cpx(3, 0), whole(255), whole(256), whole(part), cpx(part, 0), whole(part + 1), whole(most),
		null,
	}
}

func TestP110AllPairs(t *testing.T) {
	vs := inOrder()
	for i, a := range vs {
		for j, b := range vs {
			want := 0
			if i < j {
				want = -1
			} else if i > j {
				want = 1
			}
			if c := value.Compare(a, b); c != want {
				t.Errorf("Compare(%#v, %#v) = %d, want %d", a, b, c, want)
			}
		}
	}
}

func TestP110NoValueCountsAsNull(t *testing.T) {
	for _, bad := range noValues() {
		for _, v := range values() {
			want := value.Compare(null, v)
			if value.Compare(bad, v) != want || value.Compare(v, bad) != -want {
				t.Errorf("Compare of %#v and %#v", bad, v)
			}
			if (want == 0) != (v == null) {
				t.Errorf("Compare(null, %#v) = %d", v, want)
			}
		}
		for _, other := range noValues() {
			if c := value.Compare(bad, other); c != 0 {
				t.Errorf("Compare(%#v, %#v) = %d", bad, other, c)
			}
		}
	}
}

func TestP110ZeroJustForTheSame(t *testing.T) {
	vs := values()
	slices.SortFunc(vs, value.Compare)
	for i := 1; i < len(vs); i++ {
		a, b := vs[i-1], vs[i]
		if value.Compare(a, b) != -1 || value.Compare(b, a) != 1 || value.Compare(a, a) != 0 {
			t.Errorf("%#v and %#v, neighbours in the order", a, b)
		}
	}
}
