package linear

import (
	"iter"
	"slices"

	"voussoir/api"
	"voussoir/exact"
)

// Corners returns the corners of what rows leave.
func Corners(rows []Row, unknowns int) ([][]exact.Q, api.Errno) {
	if e := check(rows, unknowns); e != api.OK {
		return nil, e
	}
	if unknowns > api.MaxSpread || len(rows) > api.MaxCorners {
		return nil, api.ErrLong
	}
	if _, e := within(rows, make([]exact.Q, unknowns)); e != api.OK {
		return nil, e
	}
	var corners [][]exact.Q
	for some := range choices(rows, unknowns) {
		if point, ok := meeting(some); ok && keeps(rows, point) {
			corners = append(corners, point)
		}
	}
	slices.SortFunc(corners, comparePoints)
	return slices.CompactFunc(corners, func(x, y []exact.Q) bool { return comparePoints(x, y) == 0 }), api.OK
}

// comparePoints compares points number by number.
func comparePoints(x, y []exact.Q) int { return slices.CompareFunc(x, y, exact.Q.Cmp) }

// meeting returns the only point for which as many rows as there are unknowns
// are equal to their Most, if there is only one.
func meeting(rows []Row) ([]exact.Q, bool) {
	t := newTable(rows, make([]exact.Q, len(rows)))
	for line := range len(rows) {
		column, ok := t.unknownIn(line)
		if !ok {
			return nil, false
		}
		t.pivot(line, column)
	}
	return t.point(), true
}

// unknownIn returns the first column of an unknown that a line depends on.
func (t *table) unknownIn(line int) (column int, ok bool) {
	for c := range len(t.columns) {
		if t.columns[c] < t.unknowns && t.lines[line][c].Sign() != 0 {
			return c, true
		}
	}
	return 0, false
}

// choices yields all choices of some of the rows, each of them in their order.
// What it yields is valid up to the next choice.
func choices(rows []Row, size int) iter.Seq[[]Row] {
	return func(yield func([]Row) bool) {
		chosen := make([]Row, size)
		// choose completes the choice from a place on, with rows from first on.
		var choose func(place, first int) bool
		choose = func(place, first int) bool {
			if place == size {
				return yield(chosen)
			}
			for i := first; i < len(rows); i++ {
				chosen[place] = rows[i]
				if !choose(place+1, i+1) {
					return false
				}
			}
			return true
		}
		choose(0, 0)
	}
}
