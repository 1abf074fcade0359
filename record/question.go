package record

import (
	"slices"

	"voussoir/api"
)

// question is what is asked about one subject: the attributes that are asked for, and which tests are true in each combination of one cell of each column. The combinations are numbered as if the cells were digits, the first column's foremost.
type question struct {
	columns []column
	truths  []set
}

// test is an expression that is asked: its bit, and whether it is true for values of the columns.
type test struct {
	bit    set
	isTrue func(values []int) bool
}

// questionOf returns what expressions ask about one subject, with this bit for the first one, and those behind it for the others.
func (r *Record) questionOf(list []api.Expr, bit set) question {
	var q question
	leaves := leavesOf(list)
	for _, name := range askedBy(list) {
		q.columns = append(q.columns, columnOf(r.attributes[name], leaves))
	}
	var tests []test
	for i, x := range list {
		tests = append(tests, test{bit: bit << i, isTrue: q.testOf(x)})
	}
	for number := range q.combinations() {
		q.truths = append(q.truths, truthOf(tests, q.values(number)))
	}
	return q
}

// truthOf returns the set of the tests that are true for values of the columns.
func truthOf(tests []test, values []int) set {
	var truth set
	for _, t := range tests {
		if t.isTrue(values) {
			truth |= t.bit
		}
	}
	return truth
}

// leavesOf returns the expressions about attributes among some and all of their Kids.
func leavesOf(list []api.Expr) []api.Expr {
	var out []api.Expr
	for _, x := range list {
		if x.Op == api.ExprIn {
			out = append(out, x)
		}
		out = append(out, leavesOf(x.Kids)...)
	}
	return out
}

// askedBy returns the names of the attributes that expressions ask for, in ascending order.
func askedBy(list []api.Expr) []string {
	var names []string
	for _, x := range leavesOf(list) {
		names = append(names, x.Attribute)
	}
	return ascending(names)
}

// testOf returns whether an expression is true for values of the columns.
func (q question) testOf(x api.Expr) func(values []int) bool {
	var kids []func(values []int) bool
	for _, kid := range x.Kids {
		kids = append(kids, q.testOf(kid))
	}
	switch x.Op {
	case api.ExprNot:
		return func(values []int) bool { return !kids[0](values) }
	case api.ExprAnd:
		return func(values []int) bool {
			isFalse := func(kid func([]int) bool) bool { return !kid(values) }
			return !slices.ContainsFunc(kids, isFalse)
		}
	case api.ExprOr:
		return func(values []int) bool {
			isTrue := func(kid func([]int) bool) bool { return kid(values) }
			return slices.ContainsFunc(kids, isTrue)
		}
	}
	isAsked := func(c column) bool { return c.Name == x.Attribute }
	at := slices.IndexFunc(q.columns, isAsked)
	return func(values []int) bool { return q.columns[at].isIn(values[at], x) }
}

// combinations returns how many combinations there are.
func (q question) combinations() int {
	n := 1
	for _, c := range q.columns {
		n *= len(c.starts)
	}
	return n
}

// values returns the values with which the cells of a combination start.
func (q question) values(number int) []int {
	out := make([]int, len(q.columns))
	for i, c := range slices.Backward(q.columns) {
		out[i] = c.starts[number%len(c.starts)]
		number /= len(c.starts)
	}
	return out
}

// worlds returns the sets of tests that are true in some world of a subject of which this is known.
func (q question) worlds(known map[string]api.Knowledge) map[set]bool {
	numbers := []int{0}
	for _, c := range q.columns {
		cells := c.possible(known[c.Name])
		longer := make([]int, 0, len(numbers)*len(cells))
		for _, n := range numbers {
			for _, cell := range cells {
				longer = append(longer, n*len(c.starts)+cell)
			}
		}
		numbers = longer
	}
	out := map[set]bool{}
	for _, n := range numbers {
		out[q.truths[n]] = true
	}
	return out
}
