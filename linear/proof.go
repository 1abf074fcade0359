package linear

import (
	"slices"

	"voussoir/api"
	"voussoir/exact"
)

// Proves reports whether an answer is proved.
func Proves(p Program, a Answer) (bool, api.Errno) {
	if e := Check(p); e != api.OK {
		return false, e
	}
	switch a.Outcome {
	case api.Solved:
		return len(a.Ray) == 0 && provesSolved(p, a), api.OK
	case api.Empty:
		return len(a.Point) == 0 && len(a.Ray) == 0 && a.Value.Sign() == 0 && provesEmpty(p, a.Weights), api.OK
	case api.Unending:
		return len(a.Weights) == 0 && a.Value.Sign() == 0 && provesUnending(p, a.Point, a.Ray), api.OK
	}
	return false, api.OK
}

// Keeps reports whether a point keeps rows.
func Keeps(rows []Row, point []exact.Q) (bool, api.Errno) {
	if e := check(rows, len(point)); e != api.OK {
		return false, e
	}
	return keeps(rows, point), api.OK
}

// provesSolved checks that the point has the value, and that no point of the
// rows can have more: their weighted sum is the goal, and has the value as its
// Most.
func provesSolved(p Program, a Answer) bool {
	if len(a.Point) != len(p.Goal) || !keeps(p.Rows, a.Point) || !areWeights(p, a.Weights) {
		return false
	}
	all := weighted(p, a.Weights)
	return slices.EqualFunc(all.Coefs, p.Goal, equal) && equal(all.Most, a.Value) && equal(sum(p.Goal, a.Point), a.Value)
}

// provesEmpty checks that the weighted sum of the rows is 0 at all points, and
// has to be less.
func provesEmpty(p Program, weights []exact.Q) bool {
	if !areWeights(p, weights) {
		return false
	}
	all := weighted(p, weights)
	rest := slices.ContainsFunc(all.Coefs, func(c exact.Q) bool { return c.Sign() != 0 })
	return !rest && all.Most.Sign() < 0
}

// provesUnending checks that one can go from the point along the ray for ever,
// and that the value grows there.
func provesUnending(p Program, point, ray []exact.Q) bool {
	if len(point) != len(p.Goal) || len(ray) != len(p.Goal) || !keeps(p.Rows, point) {
		return false
	}
	ends := slices.ContainsFunc(p.Rows, func(r Row) bool { return sum(r.Coefs, ray).Sign() > 0 })
	return !ends && sum(p.Goal, ray).Sign() > 0
}

// areWeights reports whether there is one for each row, and none is negative.
func areWeights(p Program, weights []exact.Q) bool {
	negative := func(w exact.Q) bool { return w.Sign() < 0 }
	return len(weights) == len(p.Rows) && !slices.ContainsFunc(weights, negative)
}

// weighted returns the sum of each weight times its row.
func weighted(p Program, weights []exact.Q) Row {
	all := Row{Coefs: make([]exact.Q, len(p.Goal))}
	for i, r := range p.Rows {
		all.Most = all.Most.Plus(weights[i].Times(r.Most))
		for j := range len(p.Goal) {
			all.Coefs[j] = all.Coefs[j].Plus(weights[i].Times(r.Coefs[j]))
		}
	}
	return all
}

// keeps reports whether a point with as many numbers as the rows have
// coefficients keeps them.
func keeps(rows []Row, point []exact.Q) bool {
	return !slices.ContainsFunc(rows, func(r Row) bool { return sum(r.Coefs, point).Cmp(r.Most) > 0 })
}

// sum returns the sum of each coefficient times its number.
func sum(coefs, numbers []exact.Q) exact.Q {
	var s exact.Q
	for j, c := range coefs {
		s = s.Plus(c.Times(numbers[j]))
	}
	return s
}

// equal reports whether two numbers are the same one.
func equal(x, y exact.Q) bool { return x.Cmp(y) == 0 }
