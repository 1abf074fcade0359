package weigh_test

import (
	"math/big"
	"slices"

	"voussoir/api"
	"voussoir/exact"
	"voussoir/linear"
	"voussoir/moving"
	"voussoir/weigh"
)

// What the chapter says, computed with math/big, as directly as it is said.

// rat returns a number as one of math/big.
func rat(x exact.Q) *big.Rat {
	r, ok := new(big.Rat).SetString(x.Text())
	if !ok {
		panic("not a number: " + x.Text())
	}
	return r
}

// rats returns numbers as those of math/big.
func rats(list []exact.Q) []*big.Rat {
	var l []*big.Rat
	for _, x := range list {
		l = append(l, rat(x))
	}
	return l
}

// dot returns the sum of products.
func dot(x, y []*big.Rat) *big.Rat {
	sum := new(big.Rat)
	for i := range x {
		sum.Add(sum, new(big.Rat).Mul(x[i], y[i]))
	}
	return sum
}

// valueOf returns the value of a line at x.
func valueOf(l []moving.Point, x *big.Rat) *big.Rat {
	for i := 1; i < len(l); i++ {
		from, to := rat(l[i-1].X), rat(l[i].X)
		if x.Cmp(from) >= 0 && x.Cmp(to) <= 0 {
			part := new(big.Rat).Sub(x, from)
			part.Quo(part, new(big.Rat).Sub(to, from))
			rise := new(big.Rat).Sub(rat(l[i].Y), rat(l[i-1].Y))
			return part.Mul(part, rise).Add(part, rat(l[i-1].Y))
		}
	}
	return new(big.Rat)
}

// placesOf returns where the axles of a pattern are, if the foremost one is at t.
func placesOf(p weigh.Pattern, t exact.Q) []*big.Rat {
	places := []*big.Rat{rat(t)}
	for i, gap := range p.Gaps {
		places = append(places, new(big.Rat).Sub(places[i], rat(gap)))
	}
	return places
}

// effectOf returns the effect of a train with some loads, the foremost axle of
// which is at t.
func effectOf(l []moving.Point, p weigh.Pattern, loads []*big.Rat, t exact.Q) *big.Rat {
	effect := new(big.Rat)
	for i, x := range placesOf(p, t) {
		effect.Add(effect, new(big.Rat).Mul(loads[i], valueOf(l, x)))
	}
	return effect
}

// isIn reports whether a number is from low to high.
func isIn(x *big.Rat, low, high exact.Q) bool { return rat(low).Cmp(x) <= 0 && x.Cmp(rat(high)) <= 0 }

// agreeing reports whether loads agree with a site.
func agreeing(s weigh.Site, p weigh.Pattern, loads []*big.Rat) bool {
	for _, load := range loads {
		if !isIn(load, p.Light, p.Heavy) {
			return false
		}
	}
	for _, r := range s.Readings {
		if !isIn(effectOf(s.Line, p, loads, r.At), r.Low, r.High) {
			return false
		}
	}
	return len(loads) == len(p.Gaps)+1
}

// loadsOf returns the loads of the axles of a vehicle, or none if there is no
// such vehicle.
func loadsOf[T any](p weigh.Pattern, loads []T, vehicle int) []T {
	if vehicle >= len(p.Vehicles) {
		return nil
	}
	from := 0
	for _, n := range p.Vehicles[:vehicle] {
		from += n
	}
	return loads[from : from+p.Vehicles[vehicle]]
}

// sumOf returns the sum of numbers.
func sumOf(list []*big.Rat) *big.Rat {
	sum := new(big.Rat)
	for _, x := range list {
		sum.Add(sum, x)
	}
	return sum
}

// lawful reports whether a vehicle keeps the law.
func lawful(p weigh.Pattern, loads []*big.Rat, w weigh.Law, vehicle int) bool {
	own := loadsOf(p, loads, vehicle)
	if len(own) == 0 {
		return true
	}
	heavy := func(load *big.Rat) bool { return load.Cmp(rat(w.Axle)) > 0 }
	return !slices.ContainsFunc(own, heavy) && sumOf(own).Cmp(rat(w.Gross[len(own)-1])) <= 0
}

// half says that the sum of each coefficient times its load is at most most.
type half struct {
	coefs []*big.Rat
	most  *big.Rat
}

// turned returns the coefficients with the opposite signs.
func (h half) turned() []*big.Rat {
	var list []*big.Rat
	for _, c := range h.coefs {
		list = append(list, new(big.Rat).Neg(c))
	}
	return list
}

// ones returns coefficients of 1 from an axle on, and otherwise 0.
func ones(n, from, count int) []*big.Rat {
	var list []*big.Rat
	for i := range n {
		c := new(big.Rat)
		if i >= from && i < from+count {
			c.SetInt64(1)
		}
		list = append(list, c)
	}
	return list
}

// halves returns the rows of P5.2.
func halves(s weigh.Site, p weigh.Pattern) []half {
	n := len(p.Gaps) + 1
	var rows []half
	both := func(coefs []*big.Rat, low, high exact.Q) {
		most := half{coefs, rat(high)}
		rows = append(rows, most, half{most.turned(), rat(low.Neg())})
	}
	for i := range n {
		both(ones(n, i, 1), p.Light, p.Heavy)
	}
	for _, r := range s.Readings {
		var values []*big.Rat
		for _, x := range placesOf(p, r.At) {
			values = append(values, valueOf(s.Line, x))
		}
		both(values, r.Low, r.High)
	}
	return rows
}

// caseOf returns the rows of the case of a pattern.
func (c scene) caseOf(p weigh.Pattern) []half {
	rows := halves(c.s, p)
	if c.vehicle >= len(p.Vehicles) {
		return rows
	}
	n, from := len(p.Gaps)+1, 0
	for _, k := range p.Vehicles[:c.vehicle] {
		from += k
	}
	count := p.Vehicles[c.vehicle]
	for i := range count {
		rows = append(rows, half{ones(n, from+i, 1), rat(c.w.Axle)})
	}
	return append(rows, half{ones(n, from, count), rat(c.w.Gross[count-1])})
}

// corners returns all points that keep rows and at which as many of them as
// there are unknowns are equal to their most, and have no other such point. The
// loads of a train are bounded, so that there is a corner if any loads keep the
// rows, and any sum is the least at one corner and the greatest at another one.
func corners(rows []half, n int) [][]*big.Rat {
	var list [][]*big.Rat
	var choose func(from int, chosen []half)
	choose = func(from int, chosen []half) {
		if len(chosen) == n {
			if point := meeting(chosen); point != nil && keepsHalves(rows, point) {
				list = append(list, point)
			}
			return
		}
		for i := from; i < len(rows); i++ {
			choose(i+1, append(slices.Clone(chosen), rows[i]))
		}
	}
	choose(0, nil)
	return list
}

// keepsHalves reports whether a point keeps rows.
func keepsHalves(rows []half, point []*big.Rat) bool {
	fails := func(h half) bool { return dot(h.coefs, point).Cmp(h.most) > 0 }
	return !slices.ContainsFunc(rows, fails)
}

// meeting returns the only point at which rows are equal to their most, or nil.
func meeting(rows []half) []*big.Rat {
	n := len(rows)
	var m [][]*big.Rat
	for _, h := range rows {
		var line []*big.Rat
		for _, x := range append(slices.Clone(h.coefs), h.most) {
			line = append(line, new(big.Rat).Set(x))
		}
		m = append(m, line)
	}
	for c := range n {
		k := slices.IndexFunc(m[c:], func(line []*big.Rat) bool { return line[c].Sign() != 0 })
		if k < 0 {
			return nil
		}
		m[c], m[c+k] = m[c+k], m[c]
		for i := range n {
			if factor := new(big.Rat).Quo(m[i][c], m[c][c]); i != c && factor.Sign() != 0 {
				for j := range n + 1 {
					m[i][j].Sub(m[i][j], new(big.Rat).Mul(factor, m[c][j]))
				}
			}
		}
	}
	var point []*big.Rat
	for c := range n {
		point = append(point, new(big.Rat).Quo(m[c][n], m[c][c]))
	}
	return point
}

// possible reports whether some loads of a pattern agree.
func possible(s weigh.Site, p weigh.Pattern) bool {
	return len(corners(halves(s, p), len(p.Gaps)+1)) > 0
}

// defends returns the first pattern of which there is a reconstruction in which
// the vehicle keeps the law, or -1.
func (c scene) defends() int {
	return slices.IndexFunc(c.l, func(p weigh.Pattern) bool { return len(corners(c.caseOf(p), len(p.Gaps)+1)) > 0 })
}

// hasTrain reports whether there is a reconstruction.
func (c scene) hasTrain() bool {
	return slices.ContainsFunc(c.l, func(p weigh.Pattern) bool { return possible(c.s, p) })
}

// refutes reports whether an answer has the outcome Empty and is proved, as P2.2
// says it, for rows about n unknowns.
func refutes(rows []half, n int, a linear.Answer) bool {
	if a.Outcome != api.Empty || len(a.Weights) != len(rows) || a.Value.Sign() != 0 || len(a.Point) != 0 || len(a.Ray) != 0 {
		return false
	}
	weights := rats(a.Weights)
	if slices.ContainsFunc(weights, func(w *big.Rat) bool { return w.Sign() < 0 }) {
		return false
	}
	most := new(big.Rat)
	sums := ones(n, 0, 0)
	for i, h := range rows {
		most.Add(most, new(big.Rat).Mul(weights[i], h.most))
		for j := range n {
			sums[j].Add(sums[j], new(big.Rat).Mul(weights[i], h.coefs[j]))
		}
	}
	return most.Sign() < 0 && !slices.ContainsFunc(sums, func(x *big.Rat) bool { return x.Sign() != 0 })
}

// refutesAll reports whether a list of answers is a proof as of P5.6.
func (c scene) refutesAll(proof []linear.Answer) bool {
	if len(proof) != len(c.l) {
		return false
	}
	for i, p := range c.l {
		if !refutes(c.caseOf(p), len(p.Gaps)+1, proof[i]) {
			return false
		}
	}
	return true
}
