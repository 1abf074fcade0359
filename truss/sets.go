package truss

import (
	"slices"

	"voussoir/api"
	"voussoir/exact"
)

// Bounds returns the ranges of densities and moves over a set of trusses.
//
// While the stiffness of one bar changes alone, each density and each move only
// grows or only falls: it is a quotient of two linear functions of it, and the
// denominator is never 0. So both ends are found at corners of the set, where
// each stiffness is the least or the greatest one.
func Bounds(t api.Truss, high []int, pushes []api.Push) (densities, moves []exact.Span, e api.Errno) {
	if e := checkPushed(t, pushes); e != api.OK {
		return nil, nil, e
	}
	loose, e := looseBars(t.Bars, high)
	if e != api.OK {
		return nil, nil, e
	}
	for corner := range 1 << len(loose) {
		s, e := solve(cornerOf(t, high, loose, corner), pushes)
		if e != api.OK {
			return nil, nil, e
		}
		densities, moves = widened(densities, s.Densities), widened(moves, s.Moves)
	}
	return densities, moves, api.OK
}

// looseBars returns the bars whose stiffness is not known exactly.
func looseBars(bars []api.Bar, high []int) ([]int, api.Errno) {
	if len(high) != len(bars) {
		return nil, api.ErrArg
	}
	var loose []int
	for i, b := range bars {
		if !isFrom(b.Stiff, high[i], api.MaxStiff) {
			return nil, api.ErrArg
		}
		if high[i] > b.Stiff {
			loose = append(loose, i)
		}
	}
	if len(loose) > api.MaxLoose {
		return nil, api.ErrLong
	}
	return loose, api.OK
}

// cornerOf returns a corner of a set of trusses: each bit says of one of the
// loose bars whether it has its greatest stiffness.
func cornerOf(t api.Truss, high, loose []int, corner int) api.Truss {
	t.Bars = slices.Clone(t.Bars)
	for bit, i := range loose {
		if corner>>bit&1 == 1 {
			t.Bars[i].Stiff = high[i]
		}
	}
	return t
}

// widened returns spans that have one more number each; there may be none yet.
func widened(spans []exact.Span, numbers []exact.Q) []exact.Span {
	wide := make([]exact.Span, len(numbers))
	for i, x := range numbers {
		wide[i] = exact.Between(x, x)
		if spans != nil {
			wide[i] = wide[i].Hull(spans[i])
		}
	}
	return wide
}
