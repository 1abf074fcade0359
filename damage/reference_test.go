package damage_test

import (
	"math/big"
	"slices"

	"voussoir/api"
	"voussoir/damage"
	"voussoir/exact"
	"voussoir/linear"
)

// What the chapter says, computed with math/big, as directly as it is said.

// rat returns a number as one of math/big.
func rat(x exact.Q) *big.Rat {
	r, ok := new(big.Rat).SetString(x.Text())
	if !ok {
		panic("not a number: " + x.Text())
	}
	return r
}

// rats returns numbers as those of math/big.
func rats(list []exact.Q) []*big.Rat {
	var l []*big.Rat
	for _, x := range list {
		l = append(l, rat(x))
	}
	return l
}

// fromRat returns a number of math/big as one of chapter 1.
func fromRat(x *big.Rat) exact.Q { return num(x.RatString()) }

// fromRats returns numbers of math/big as those of chapter 1.
func fromRats(list []*big.Rat) []exact.Q {
	var l []exact.Q
	for _, x := range list {
		l = append(l, fromRat(x))
	}
	return l
}

// fromInt returns an integer.
func fromInt(n int) *big.Rat { return new(big.Rat).SetInt64(int64(n)) }

// plus returns a sum.
func plus(list ...*big.Rat) *big.Rat {
	sum := new(big.Rat)
	for _, x := range list {
		sum.Add(sum, x)
	}
	return sum
}

// times returns a product.
func times(x, y *big.Rat) *big.Rat { return new(big.Rat).Mul(x, y) }

// minus returns a difference.
func minus(x, y *big.Rat) *big.Rat { return new(big.Rat).Sub(x, y) }

// dot returns the sum of products.
func dot(x, y []*big.Rat) *big.Rat {
	sum := new(big.Rat)
	for i := range x {
		sum.Add(sum, times(x[i], y[i]))
	}
	return sum
}

// turned returns numbers with the opposite signs.
func turned(list []*big.Rat) []*big.Rat {
	var l []*big.Rat
	for _, x := range list {
		l = append(l, new(big.Rat).Neg(x))
	}
	return l
}

// unit returns zeros, and 1 at a place if it is not -1.
func unit(n, at int) []*big.Rat {
	var list []*big.Rat
	for i := range n {
		list = append(list, fromInt(boolInt(i == at)))
	}
	return list
}

// heldIn reports whether a direction is held.
func heldIn(s api.Truss, d int) bool {
	return d%2 == 0 && s.Joints[d/2].FixX || d%2 == 1 && s.Joints[d/2].FixY
}

// freeOf returns the free directions.
func freeOf(s api.Truss) []int {
	var free []int
	for d := range 2 * len(s.Joints) {
		if !heldIn(s, d) {
			free = append(free, d)
		}
	}
	return free
}

// pushIn returns the push in a direction.
func pushIn(pushes []api.Push, d int) *big.Rat {
	if d%2 == 0 {
		return fromInt(pushes[d/2].X)
	}
	return fromInt(pushes[d/2].Y)
}

// stretchOf returns the stretch of a bar in a move.
func stretchOf(s api.Truss, b api.Bar, moves []*big.Rat) *big.Rat {
	from, to := s.Joints[b.A], s.Joints[b.B]
	x := times(fromInt(to.X-from.X), minus(moves[2*b.B], moves[2*b.A]))
	y := times(fromInt(to.Y-from.Y), minus(moves[2*b.B+1], moves[2*b.A+1]))
	return plus(x, y)
}

// stretchTable returns the stretch of each bar in a move of 1 in each free
// direction alone.
func stretchTable(s api.Truss) [][]*big.Rat {
	var table [][]*big.Rat
	for _, b := range s.Bars {
		var row []*big.Rat
		for _, d := range freeOf(s) {
			row = append(row, stretchOf(s, b, unit(2*len(s.Joints), d)))
		}
		table = append(table, row)
	}
	return table
}

// movesOf returns the move of a truss whose bars have some stiffnesses, or
// nothing if it can move by itself.
func movesOf(s api.Truss, stiff []*big.Rat, pushes []api.Push) []*big.Rat {
	free, table := freeOf(s), stretchTable(s)
	var balances []half // the push in each free direction is what the densities answer to a move
	for i, d := range free {
		h := half{unit(len(free), -1), pushIn(pushes, d)}
		for b, row := range table {
			for k := range free {
				density := times(stiff[b], row[k])
				h.coefs[k].Add(h.coefs[k], times(density, row[i]))
			}
		}
		balances = append(balances, h)
	}
	point, ok := meeting(balances)
	if !ok {
		return nil
	}
	moves := unit(2*len(s.Joints), -1)
	for i, d := range free {
		moves[d] = point[i]
	}
	return moves
}

// stiffnesses returns the stiffness of each bar, divided by its factor.
func stiffnesses(s api.Truss, factors []*big.Rat) []*big.Rat {
	var list []*big.Rat
	for i, b := range s.Bars {
		list = append(list, new(big.Rat).Quo(fromInt(b.Stiff), factors[i]))
	}
	return list
}

// measureOf returns what a sensor measures under pushes, if the bars have some
// factors.
func measureOf(w damage.Watch, s damage.Sensor, pushes []api.Push, factors []*big.Rat) *big.Rat {
	moves := movesOf(w.Truss, stiffnesses(w.Truss, factors), pushes)
	if s.Strain {
		return stretchOf(w.Truss, w.Truss.Bars[s.At], moves)
	}
	return moves[s.At]
}

// numbersOf returns the three numbers of a sensor, in a list for all unknowns.
func numbersOf[T any](w damage.Watch, list []T, sensor int) []T {
	from := len(w.Truss.Bars) + 3*sensor
	return list[from : from+3]
}

// shownBy returns what a reading shows without an error, in a structure.
func shownBy(w damage.Watch, r damage.Reading, list []*big.Rat) *big.Rat {
	own := numbersOf(w, list, r.Sensor)
	measured := measureOf(w, w.Sensors[r.Sensor], w.Cases[r.Case], list[:len(w.Truss.Bars)])
	return plus(measured, own[0], times(fromInt(r.Day), own[1]), times(fromInt(r.Degrees), own[2]))
}

// isIn reports whether a number is in a span.
func isIn(x *big.Rat, s exact.Span) bool { return s.Has(fromRat(x)) }

// spansOf returns what each unknown may be.
func spansOf(w damage.Watch) []exact.Span {
	var list []exact.Span
	for _, worst := range w.Worst {
		list = append(list, exact.Span{Low: whole(1), High: whole(worst)})
	}
	for _, s := range w.Sensors {
		list = append(list, s.Offset, s.Drift, s.Warm)
	}
	return list
}

// isExplanation reports whether a list of numbers is an explanation of a watch.
func isExplanation(w damage.Watch, list []*big.Rat) bool {
	for i, s := range spansOf(w) {
		if !isIn(list[i], s) {
			return false
		}
	}
	wrong := func(r damage.Reading) bool {
		far := new(big.Rat).Abs(minus(rat(r.Value), shownBy(w, r, list)))
		return far.Cmp(rat(w.Sensors[r.Sensor].Error)) > 0
	}
	return !slices.ContainsFunc(w.Readings, wrong)
}

// half says that the sum of each coefficient times its unknown is at most most.
type half struct {
	coefs []*big.Rat
	most  *big.Rat
}

// halvesOf returns the two halves that a form is in a span.
func halvesOf(form []*big.Rat, s exact.Span) []half {
	ends := exact.Between(s.Low, s.High)
	return []half{{form, rat(ends.High)}, {turned(form), new(big.Rat).Neg(rat(ends.Low))}}
}

// formOf returns the coefficients of what a sensor measures: how much more that
// is where one factor is greater by 1.
func formOf(w damage.Watch, s damage.Sensor, pushes []api.Push) []*big.Rat {
	form := unit(len(spansOf(w)), -1)
	ones := slices.Repeat([]*big.Rat{fromInt(1)}, len(w.Truss.Bars))
	base := measureOf(w, s, pushes, ones)
	for i := range w.Truss.Bars {
		more := slices.Clone(ones)
		more[i] = fromInt(2)
		form[i] = minus(measureOf(w, s, pushes, more), base)
	}
	if plus(form...).Cmp(base) != 0 {
		panic("what is measured is not a form")
	}
	return form
}

// around returns the span of a value and an error.
func around(value, off exact.Q) exact.Span {
	return exact.Span{Low: value.Minus(off), High: value.Plus(off)}
}

// halves returns the rows of P6.2.
func halves(w damage.Watch) []half {
	var list []half
	spans := spansOf(w)
	for i, s := range spans {
		list = append(list, halvesOf(unit(len(spans), i), s)...)
	}
	for _, r := range w.Readings {
		s := w.Sensors[r.Sensor]
		form := formOf(w, s, w.Cases[r.Case])
		own := numbersOf(w, form, r.Sensor)
		own[0], own[1], own[2] = fromInt(1), fromInt(r.Day), fromInt(r.Degrees)
		list = append(list, halvesOf(form, around(r.Value, s.Error))...)
	}
	return list
}

// meeting returns the only point at which as many halves as there are unknowns
// are equal to their most, if there is one only.
func meeting(list []half) ([]*big.Rat, bool) {
	n := len(list)
	var m [][]*big.Rat
	for _, h := range list {
		var line []*big.Rat
		for _, x := range append(slices.Clone(h.coefs), h.most) {
			line = append(line, new(big.Rat).Set(x))
		}
		m = append(m, line)
	}
	for c := range n {
		k := slices.IndexFunc(m[c:], func(line []*big.Rat) bool { return line[c].Sign() != 0 })
		if k < 0 {
			return nil, false
		}
		m[c], m[c+k] = m[c+k], m[c]
		for i := range n {
			if factor := new(big.Rat).Quo(m[i][c], m[c][c]); i != c && factor.Sign() != 0 {
				for j := range n + 1 {
					m[i][j].Sub(m[i][j], times(factor, m[c][j]))
				}
			}
		}
	}
	point := unit(n, -1)
	for c := range n {
		point[c].Quo(m[c][n], m[c][c])
	}
	return point, true
}

// total returns the sum of each weight times its half; it panics if there is
// not one for each, or if a weight is negative.
func total(list []half, n int, weights []*big.Rat) half {
	if len(weights) != len(list) {
		panic("not one weight for each row")
	}
	sum := half{unit(n, -1), new(big.Rat)}
	for i, h := range list {
		if weights[i].Sign() < 0 {
			panic("a negative weight")
		}
		sum.most.Add(sum.most, times(weights[i], h.most))
		for j := range n {
			sum.coefs[j].Add(sum.coefs[j], times(weights[i], h.coefs[j]))
		}
	}
	return sum
}

// same reports whether two lists have the same numbers.
func same(x, y []*big.Rat) bool {
	return slices.EqualFunc(x, y, func(a, b *big.Rat) bool { return a.Cmp(b) == 0 })
}

// best returns the greatest value of a goal where halves are kept, and a point
// that has it, or false if no point keeps them. Package linear finds them; what
// it finds is believed only with a proof (P2.2), which is checked here.
func best(list []half, goal []*big.Rat) (value *big.Rat, point []*big.Rat, ok bool) {
	p := linear.Program{Goal: fromRats(goal)}
	for _, h := range list {
		p.Rows = append(p.Rows, linear.Row{Coefs: fromRats(h.coefs), Most: fromRat(h.most)})
	}
	a, e := linear.Solve(p)
	if e != api.OK {
		panic("package linear refuses the program")
	}
	value, point = rat(a.Value), rats(a.Point)
	sum := total(list, len(goal), rats(a.Weights))
	if a.Outcome == api.Empty && same(sum.coefs, unit(len(goal), -1)) && sum.most.Sign() < 0 {
		return nil, nil, false
	}
	fails := func(h half) bool { return dot(h.coefs, point).Cmp(h.most) > 0 }
	if a.Outcome != api.Solved || !same(sum.coefs, goal) || sum.most.Cmp(value) != 0 || dot(goal, point).Cmp(value) != 0 || slices.ContainsFunc(list, fails) {
		panic("package linear does not prove its answer")
	}
	return value, point, true
}

// reach returns the least and the greatest value of a form where halves are
// kept, or false if no point keeps them.
func reach(list []half, form []*big.Rat) (exact.Span, bool) {
	high, _, ok := best(list, form)
	if !ok {
		return exact.Span{}, false
	}
	low, _, _ := best(list, turned(form))
	return exact.Span{Low: fromRat(low.Neg(low)), High: fromRat(high)}, true
}

// hasExplanation reports whether there is an explanation.
func hasExplanation(w damage.Watch) bool {
	_, _, ok := best(halves(w), unit(len(spansOf(w)), -1))
	return ok
}

// reachOf returns what each factor may be, or false if there is no explanation.
func reachOf(w damage.Watch) ([]exact.Span, bool) {
	var list []exact.Span
	rows := halves(w)
	for i := range w.Truss.Bars {
		s, ok := reach(rows, unit(len(spansOf(w)), i))
		if !ok {
			return nil, false
		}
		list = append(list, s)
	}
	return list, hasExplanation(w)
}

// explainedBy returns an explanation with some factors, if there is one: it
// looks for numbers of the sensors in the spans that the readings leave.
func explainedBy(w damage.Watch, factors []*big.Rat) ([]*big.Rat, bool) {
	bars, spans := len(factors), spansOf(w)
	for i, f := range factors {
		if !isIn(f, spans[i]) {
			return nil, false
		}
	}
	n := len(spans) - bars
	var list []half
	for i := range n {
		list = append(list, halvesOf(unit(n, i), spans[bars+i])...)
	}
	for _, r := range w.Readings {
		s := w.Sensors[r.Sensor]
		form := unit(n, -1)
		form[3*r.Sensor], form[3*r.Sensor+1], form[3*r.Sensor+2] = fromInt(1), fromInt(r.Day), fromInt(r.Degrees)
		measured := fromRat(measureOf(w, s, w.Cases[r.Case], factors))
		list = append(list, halvesOf(form, around(r.Value.Minus(measured), s.Error))...)
	}
	_, point, ok := best(list, unit(n, -1))
	return slices.Concat(factors, point), ok
}

// excluded reports whether weights exclude that the factor of a bar is above a
// limit.
func excluded(w damage.Watch, bar int, limit exact.Q, weights []exact.Q) bool {
	if slices.ContainsFunc(weights, func(x exact.Q) bool { return x.Sign() < 0 }) {
		return false
	}
	n := len(spansOf(w))
	sum := total(halves(w), n, rats(weights))
	return same(sum.coefs, unit(n, bar)) && sum.most.Cmp(rat(limit)) <= 0
}

// findingsOf returns what is proved of bars with some factors.
func findingsOf(factors []exact.Span, limit exact.Q) []api.Finding {
	var list []api.Finding
	for _, s := range factors {
		switch {
		case rat(s.High).Cmp(rat(limit)) <= 0:
			list = append(list, api.Sound)
		case rat(s.Low).Cmp(rat(limit)) > 0:
			list = append(list, api.Damaged)
		default:
			list = append(list, api.Unsure)
		}
	}
	return list
}

// hushed returns a watch without the readings of the sensors of a set.
func hushed(w damage.Watch, set []int) damage.Watch {
	var rest []damage.Reading
	for _, r := range w.Readings {
		if !slices.Contains(set, r.Sensor) {
			rest = append(rest, r)
		}
	}
	w.Readings = rest
	return w
}

// subsets returns all sets of a size of the integers from first to n - 1, in
// ascending order.
func subsets(first, n, size int) [][]int {
	if size == 0 {
		return [][]int{nil}
	}
	var list [][]int
	for i := first; i < n; i++ {
		for _, rest := range subsets(i+1, n, size-1) {
			list = append(list, append([]int{i}, rest...))
		}
	}
	return list
}

// liarsOf returns the smallest sets of sensors without whose readings there is
// an explanation.
func liarsOf(w damage.Watch) [][]int {
	for size := range len(w.Sensors) + 1 {
		var found [][]int
		for _, set := range subsets(0, len(w.Sensors), size) {
			if hasExplanation(hushed(w, set)) {
				found = append(found, set)
			}
		}
		if len(found) > 0 {
			return found
		}
	}
	panic("no explanation without readings")
}
