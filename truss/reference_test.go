package truss_test

import (
	"math/big"

	"voussoir/api"
	"voussoir/exact"
)

// What the chapter says, computed with math/big, as directly as it is said.

// rat returns a number as one of math/big.
func rat(x exact.Q) *big.Rat {
	r, ok := new(big.Rat).SetString(x.Text())
	if !ok {
		panic("not a number: " + x.Text())
	}
	return r
}

// rats returns numbers as those of math/big.
func rats(list []exact.Q) []*big.Rat {
	var numbers []*big.Rat
	for _, x := range list {
		numbers = append(numbers, rat(x))
	}
	return numbers
}

// fromInt returns an integer.
func fromInt(n int) *big.Rat { return new(big.Rat).SetInt64(int64(n)) }

// plus returns a sum.
func plus(list ...*big.Rat) *big.Rat {
	sum := new(big.Rat)
	for _, x := range list {
		sum.Add(sum, x)
	}
	return sum
}

// times returns a product.
func times(x, y *big.Rat) *big.Rat { return new(big.Rat).Mul(x, y) }

// minus returns a difference.
func minus(x, y *big.Rat) *big.Rat { return new(big.Rat).Sub(x, y) }

// heldIn reports whether a direction is held.
func heldIn(s api.Truss, d int) bool {
	return d%2 == 0 && s.Joints[d/2].FixX || d%2 == 1 && s.Joints[d/2].FixY
}

// freeOf returns the free directions.
func freeOf(s api.Truss) []int {
	var free []int
	for d := range 2 * len(s.Joints) {
		if !heldIn(s, d) {
			free = append(free, d)
		}
	}
	return free
}

// pushIn returns the push in a direction.
func pushIn(pushes []api.Push, d int) *big.Rat {
	if d%2 == 0 {
		return fromInt(pushes[d/2].X)
	}
	return fromInt(pushes[d/2].Y)
}

// forceIn returns the force of a bar of the density 1 in a direction.
func forceIn(s api.Truss, b api.Bar, d int) *big.Rat {
	from, to := s.Joints[b.A], s.Joints[b.B]
	way := to.X - from.X
	if d%2 == 1 {
		way = to.Y - from.Y
	}
	switch d / 2 {
	case b.A:
		return fromInt(way)
	case b.B:
		return fromInt(-way)
	}
	return new(big.Rat)
}

// stretchOf returns the stretch of a bar in a move.
func stretchOf(s api.Truss, b api.Bar, moves []*big.Rat) *big.Rat {
	from, to := s.Joints[b.A], s.Joints[b.B]
	x := times(fromInt(to.X-from.X), minus(moves[2*b.B], moves[2*b.A]))
	y := times(fromInt(to.Y-from.Y), minus(moves[2*b.B+1], moves[2*b.A+1]))
	return plus(x, y)
}

// sumIn returns what the push in a direction, times a factor, and the forces of
// the bars add up to.
func sumIn(s api.Truss, pushes []api.Push, factor *big.Rat, densities []*big.Rat, d int) *big.Rat {
	sum := times(pushIn(pushes, d), factor)
	for i, b := range s.Bars {
		sum.Add(sum, times(densities[i], forceIn(s, b, d)))
	}
	return sum
}

// carries reports whether densities carry the pushes times a factor.
func carries(s api.Truss, pushes []api.Push, factor *big.Rat, densities []*big.Rat) bool {
	for _, d := range freeOf(s) {
		if sumIn(s, pushes, factor, densities, d).Sign() != 0 {
			return false
		}
	}
	return true
}

// stands reports whether densities are borne, and carry the pushes times a factor.
func stands(s api.Truss, pushes []api.Push, factor *big.Rat, densities []*big.Rat) bool {
	for i, b := range s.Bars {
		if densities[i].Cmp(fromInt(b.Tension)) > 0 || densities[i].Cmp(fromInt(-b.Squash)) < 0 {
			return false
		}
	}
	return carries(s, pushes, factor, densities)
}

// workOf returns the work of pushes on a move.
func workOf(pushes []api.Push, moves []*big.Rat) *big.Rat {
	work := new(big.Rat)
	for d := range moves {
		work.Add(work, times(pushIn(pushes, d), moves[d]))
	}
	return work
}

// takes returns the sum of which the chapter says that it is at most the factor
// at which a move breaks a truss.
func takes(s api.Truss, moves []*big.Rat) *big.Rat {
	sum := new(big.Rat)
	for _, b := range s.Bars {
		if x := stretchOf(s, b, moves); x.Sign() > 0 {
			sum.Add(sum, times(fromInt(b.Tension), x))
		} else {
			sum.Add(sum, times(fromInt(-b.Squash), x))
		}
	}
	return sum
}

// breaks reports whether numbers are a move that breaks a truss at a factor.
func breaks(s api.Truss, pushes []api.Push, factor *big.Rat, moves []*big.Rat) bool {
	for d := range moves {
		if heldIn(s, d) && moves[d].Sign() != 0 {
			return false
		}
	}
	return workOf(pushes, moves).Cmp(fromInt(1)) == 0 && takes(s, moves).Cmp(factor) <= 0
}

// pullTable returns the force of each bar of the density 1 in each free
// direction: a row for each direction.
func pullTable(s api.Truss) [][]*big.Rat {
	var table [][]*big.Rat
	for _, d := range freeOf(s) {
		var row []*big.Rat
		for _, b := range s.Bars {
			row = append(row, forceIn(s, b, d))
		}
		table = append(table, row)
	}
	return table
}

// reduced changes rows by Gauss's elimination of the first columns, and returns
// the column that each of the first rows has alone.
func reduced(rows [][]*big.Rat, columns int) (pivots []int) {
	for c := 0; c < columns && len(pivots) < len(rows); c++ {
		n := len(pivots)
		at := n
		for at < len(rows) && rows[at][c].Sign() == 0 {
			at++
		}
		if at == len(rows) {
			continue
		}
		rows[n], rows[at] = rows[at], rows[n]
		for i := range rows {
			if i == n || rows[i][c].Sign() == 0 {
				continue
			}
			factor := new(big.Rat).Quo(rows[i][c], rows[n][c])
			for j := range rows[i] {
				rows[i][j] = minus(rows[i][j], times(factor, rows[n][j]))
			}
		}
		pivots = append(pivots, c)
	}
	return pivots
}

// rank returns how many rows are independent; it changes them.
func rank(rows [][]*big.Rat) int {
	if len(rows) == 0 {
		return 0
	}
	return len(reduced(rows, len(rows[0])))
}

// stiffOf returns the stiffnesses of a truss.
func stiffOf(s api.Truss) []*big.Rat {
	var list []*big.Rat
	for _, b := range s.Bars {
		list = append(list, fromInt(b.Stiff))
	}
	return list
}

// stateOf returns the moves and the densities of a truss that can not move, with
// any stiffnesses. Its equations are about the moves in free directions and
// the densities: each density is that of the stretch, and the forces add up.
func stateOf(s api.Truss, stiff []*big.Rat, pushes []api.Push) (moves, densities []*big.Rat) {
	free, bars := freeOf(s), len(s.Bars)
	unknowns := len(free) + bars
	var rows [][]*big.Rat
	empty := func() []*big.Rat {
		row := make([]*big.Rat, unknowns+1)
		for j := range row {
			row[j] = new(big.Rat)
		}
		rows = append(rows, row)
		return row
	}
	for i, b := range s.Bars {
		row := empty()
		for j, d := range free {
			row[j] = times(stiff[i], stretchOf(s, b, unit(2*len(s.Joints), d)))
		}
		row[len(free)+i] = fromInt(-1)
	}
	for _, d := range free {
		row := empty()
		for i, b := range s.Bars {
			row[len(free)+i] = forceIn(s, b, d)
		}
		row[unknowns] = minus(new(big.Rat), pushIn(pushes, d))
	}
	if n := len(reduced(rows, unknowns)); n != unknowns {
		panic("the truss can move")
	}
	moves, densities = unit(2*len(s.Joints), -1), unit(bars, -1)
	for n, row := range rows {
		value := new(big.Rat).Quo(row[unknowns], row[n])
		if n < len(free) {
			moves[free[n]] = value
		} else {
			densities[n-len(free)] = value
		}
	}
	return moves, densities
}

// unit returns zeros, and 1 at a place if it is not -1.
func unit(n, at int) []*big.Rat {
	list := make([]*big.Rat, n)
	for i := range list {
		list[i] = new(big.Rat)
	}
	if at >= 0 {
		list[at] = fromInt(1)
	}
	return list
}

// sameNumbers reports whether numbers are those of math/big.
func sameNumbers(list []exact.Q, want []*big.Rat) bool {
	if len(list) != len(want) {
		return false
	}
	for i, x := range list {
		if rat(x).Cmp(want[i]) != 0 {
			return false
		}
	}
	return true
}
