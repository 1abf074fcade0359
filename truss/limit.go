package truss

import (
	"slices"

	"voussoir/api"
	"voussoir/exact"
	"voussoir/linear"
)

// Limit returns the greatest factor of pushes that can be carried, with proofs from both sides.
func Limit(t api.Truss, pushes []api.Push) (factor exact.Q, densities, moves []exact.Q, e api.Errno) {
	if e := checkPushed(t, pushes); e != api.OK {
		return exact.Q{}, nil, nil, e
	}
	free, push := freeOnes(t), loads(pushes)
	if !slices.ContainsFunc(free, func(d int) bool { return push[d].Sign() != 0 }) {
		return exact.Q{}, nil, nil, api.ErrIdle
	}
	a, e := linear.Solve(program(t, push, free))
	if e != api.OK {
		return exact.Q{}, nil, nil, e
	}
	densities = make([]exact.Q, len(t.Bars))
	copy(densities, a.Point)
	return a.Value, densities, breaking(t, free, a.Weights), api.OK
}

// Stands reports whether densities prove that a factor can be carried.
func Stands(t api.Truss, pushes []api.Push, factor exact.Q, densities []exact.Q) (bool, api.Errno) {
	if e := checkListed(t, pushes, len(densities), len(t.Bars)); e != api.OK {
		return false, e
	}
	return areBorne(t.Bars, densities) && carry(t, pushes, factor, densities), api.OK
}

// Breaks reports whether a move proves that nothing above a factor can be carried.
func Breaks(t api.Truss, pushes []api.Push, factor exact.Q, moves []exact.Q) (bool, api.Errno) {
	if e := checkListed(t, pushes, len(moves), directions(t)); e != api.OK {
		return false, e
	}
	var work exact.Q
	for d, push := range loads(pushes) {
		if isHeld(t, d) && moves[d].Sign() != 0 {
			return false, api.OK
		}
		work = work.Plus(push.Times(moves[d]))
	}
	return work.Cmp(exact.Int(1)) == 0 && resistance(t, moves).Cmp(factor) <= 0, api.OK
}

// program returns the program that finds the limit. Its unknowns are the
// densities and, as the last one, the factor. For each free direction, in their
// order, two rows say that the forces in it add up to 0; then two rows for each
// bar say what it bears.
func program(t api.Truss, push []exact.Q, free []int) linear.Program {
	factor := len(t.Bars)
	p := linear.Program{Goal: make([]exact.Q, factor+1)}
	p.Goal[factor] = exact.Int(1)
	sums := make([][]exact.Q, len(push))
	for d := range sums {
		sums[d] = make([]exact.Q, factor+1)
		sums[d][factor] = push[d]
	}
	for i, b := range t.Bars {
		for d, pull := range pulls(t, b) {
			sums[d][i] = pull
		}
	}
	for _, d := range free {
		p.Rows = append(p.Rows, between(sums[d], exact.Q{}, exact.Q{})...)
	}
	for i, b := range t.Bars {
		density := make([]exact.Q, factor+1)
		density[i] = exact.Int(1)
		p.Rows = append(p.Rows, between(density, exact.Int(int64(-b.Squash)), exact.Int(int64(b.Tension)))...)
	}
	return p
}

// between returns the two rows that say that a sum is at most high, and at
// least low.
func between(coefs []exact.Q, low, high exact.Q) []linear.Row {
	turned := make([]exact.Q, len(coefs))
	for i, c := range coefs {
		turned[i] = c.Neg()
	}
	return []linear.Row{{Coefs: coefs, Most: high}, {Coefs: turned, Most: low.Neg()}}
}

// breaking returns the move that the weights of the program tell: in each free
// direction, that of one of its rows less that of the other one. That the
// weights prove the limit means that it breaks the truss: what they say of the
// factor is that the work is 1, and what they say of a density is that the two
// weights of its bar differ by its stretch.
func breaking(t api.Truss, free []int, weights []exact.Q) []exact.Q {
	moves := make([]exact.Q, directions(t))
	for i, d := range free {
		moves[d] = weights[2*i].Minus(weights[2*i+1])
	}
	return moves
}

// areBorne reports whether each bar bears its density.
func areBorne(bars []api.Bar, densities []exact.Q) bool {
	for i, b := range bars {
		low, high := exact.Int(int64(-b.Squash)), exact.Int(int64(b.Tension))
		if !exact.Between(low, high).Has(densities[i]) {
			return false
		}
	}
	return true
}

// resistance returns the greatest work that the bars can do against a move.
func resistance(t api.Truss, moves []exact.Q) exact.Q {
	var sum exact.Q
	for _, b := range t.Bars {
		s := stretch(t, b, moves)
		borne := b.Tension
		if s.Sign() < 0 {
			borne = b.Squash
		}
		sum = sum.Plus(s.Abs().Times(exact.Int(int64(borne))))
	}
	return sum
}
