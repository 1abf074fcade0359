package linear

import (
	"slices"

	"voussoir/api"
	"voussoir/exact"
)

// Ends are the least and the greatest value of a form, where there is one.
type Ends struct {
	Low, High exact.Q
	Bounded   [2]bool // whether there is a least, and whether there is a greatest value
}

// Range returns the ends of a form where rows are kept.
func Range(rows []Row, form []exact.Q) (Ends, api.Errno) {
	if e := check(rows, len(form)); e != api.OK {
		return Ends{}, e
	}
	t, e := within(rows, form)
	if e != api.OK {
		return Ends{}, e
	}
	var ends Ends
	ends.High, ends.Bounded[1] = t.greatest()
	t.turn(t.formLine())
	ends.Low, ends.Bounded[0] = t.greatest()
	ends.Low = ends.Low.Neg()
	return ends, api.OK
}

// Needed says for each row whether it is needed.
func Needed(rows []Row, unknowns int) ([]bool, api.Errno) {
	if e := check(rows, unknowns); e != api.OK {
		return nil, e
	}
	t, e := within(rows, make([]exact.Q, unknowns))
	if e != api.OK {
		return nil, e
	}
	needed := make([]bool, len(rows))
	for i := range len(rows) {
		needed[i] = t.clone().leaves(i)
	}
	return needed, api.OK
}

// Conflict returns rows that no point keeps, none of which can be left out.
//
// Going from the last row to the first one, a row can not be left out just if
// some point keeps all rows before it and those found so far, but none keeps
// this row as well. So the next row that is found is the first one that fails
// when those found so far are kept first, and then all others in their order.
func Conflict(rows []Row, unknowns int) ([]int, api.Errno) {
	if e := check(rows, unknowns); e != api.OK {
		return nil, e
	}
	row, failed := failing(rows, unknowns, upTo(len(rows)))
	if !failed {
		return nil, api.ErrPossible
	}
	var found []int
	for !slices.Contains(found, row) {
		found = append(found, row)
		row, _ = failing(rows, unknowns, append(slices.Clone(found), upTo(row)...))
	}
	slices.Reverse(found)
	return found, api.OK
}

// failing returns the first row, in an order, that no point keeps together
// with those before it.
func failing(rows []Row, unknowns int, order []int) (row int, failed bool) {
	return newTable(rows, make([]exact.Q, unknowns)).keep(order)
}

// within returns a table at a point that keeps all rows.
func within(rows []Row, form []exact.Q) (*table, api.Errno) {
	t := newTable(rows, form)
	if _, failed := t.keep(upTo(len(rows))); failed {
		return nil, api.ErrEmpty
	}
	return t, api.OK
}

// greatest returns the greatest value of the form, if there is one.
func (t *table) greatest() (exact.Q, bool) {
	if _, endless := t.climb(t.formLine(), never); endless {
		return exact.Q{}, false
	}
	return t.value(t.formLine()), true
}

// leaves reports whether one can get out of a row, and keep all other rows.
func (t *table) leaves(row int) bool {
	out := func(a amount) bool { return a.number.Sign() > 0 }
	room := t.room(row)
	t.kept[room] = false
	if c := slices.Index(t.columns, room); c >= 0 {
		stop, far := t.first(step{c, true})
		if stop < 0 || out(far) {
			return true
		}
		t.pivot(stop, c)
	}
	line := t.lineOf(room)
	t.turn(line) // it tells now how far the point is out of the row
	_, endless := t.climb(line, out)
	return endless || out(t.amount(line))
}
