package truss

import (
	"slices"

	"voussoir/api"
	"voussoir/exact"
)

// directions returns the number of directions.
func directions(t api.Truss) int { return 2 * len(t.Joints) }

// isHeld reports whether a direction is held.
func isHeld(t api.Truss, direction int) bool {
	joint := t.Joints[direction/2]
	if direction%2 == 0 {
		return joint.FixX
	}
	return joint.FixY
}

// freeOnes returns the directions that are free, in ascending order.
func freeOnes(t api.Truss) []int {
	var free []int
	for d := range directions(t) {
		if !isHeld(t, d) {
			free = append(free, d)
		}
	}
	return free
}

// pulls returns with what force a bar of the density 1 acts in each of its
// directions. These are also the factors, but for their sign, with which moves
// make its stretch.
func pulls(t api.Truss, b api.Bar) map[int]exact.Q {
	from, to := t.Joints[b.A], t.Joints[b.B]
	x, y := exact.Int(int64(to.X-from.X)), exact.Int(int64(to.Y-from.Y))
	return map[int]exact.Q{2 * b.A: x, 2*b.A + 1: y, 2 * b.B: x.Neg(), 2*b.B + 1: y.Neg()}
}

// stretch returns the stretch of a bar in a move.
func stretch(t api.Truss, b api.Bar, moves []exact.Q) exact.Q {
	var sum exact.Q
	for d, pull := range pulls(t, b) {
		sum = sum.Minus(pull.Times(moves[d]))
	}
	return sum
}

// loads returns the push in each direction.
func loads(pushes []api.Push) []exact.Q {
	list := make([]exact.Q, 0, 2*len(pushes))
	for _, p := range pushes {
		list = append(list, exact.Int(int64(p.X)), exact.Int(int64(p.Y)))
	}
	return list
}

// forces returns, for each direction, what the pushes times a factor and the
// forces of the bars add up to.
func forces(t api.Truss, pushes []api.Push, factor exact.Q, densities []exact.Q) []exact.Q {
	sums := loads(pushes)
	for d, push := range sums {
		sums[d] = push.Times(factor)
	}
	for i, b := range t.Bars {
		for d, pull := range pulls(t, b) {
			sums[d] = sums[d].Plus(pull.Times(densities[i]))
		}
	}
	return sums
}

// carry reports whether densities carry the pushes times a factor.
func carry(t api.Truss, pushes []api.Push, factor exact.Q, densities []exact.Q) bool {
	sums := forces(t, pushes, factor, densities)
	return !slices.ContainsFunc(freeOnes(t), func(d int) bool { return sums[d].Sign() != 0 })
}
