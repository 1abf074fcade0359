package linear

import "voussoir/exact"

// step is a change of what one column stands for.
type step struct {
	column int
	down   bool // whether it gets less than 0, which only unknowns may
}

// direction returns 1 or -1.
func (s step) direction() exact.Q {
	if s.down {
		return exact.Int(-1)
	}
	return exact.Int(1)
}

// rate returns how what a line tells changes on a step.
func (t *table) rate(line int, s step) exact.Q {
	return t.lines[line][s.column].Times(s.direction())
}

// keep moves the point so that it keeps rows, one after the other. It stops at
// the first row that no point keeps together with those before it.
func (t *table) keep(rows []int) (row int, failed bool) {
	for _, row := range rows {
		if !t.keepAlso(row) {
			return row, true
		}
	}
	return 0, false
}

// keepAlso moves the point so that it keeps one more row, if it can.
func (t *table) keepAlso(row int) bool {
	room := t.room(row)
	t.kept[room] = true
	line := t.lineOf(room)
	t.climb(line, func(a amount) bool { return !a.isNegative() })
	return t.told[line] != room || !t.amount(line).isNegative()
}

// climb moves the point so that what a line tells grows, until it is enough, or
// is in a column and so 0, or can not grow any more, or can be made as great as
// one likes: by a last step, which is returned then.
func (t *table) climb(line int, enough func(amount) bool) (last step, endless bool) {
	thing := t.told[line]
	for t.told[line] == thing && !enough(t.amount(line)) {
		s, stop, grows := t.best(line)
		if !grows || stop < 0 {
			return s, grows
		}
		t.pivot(stop, s.column)
	}
	return step{}, false
}

// best returns the step on which what a line tells grows most, and the line
// that stops it, or -1. Of several such steps it takes that of the smallest
// number: where none gains anything, this is Bland's rule, with which a table
// never goes round in circles.
func (t *table) best(line int) (best step, stop int, grows bool) {
	var most amount
	for c := range len(t.columns) {
		s, ok := t.upward(line, c)
		if !ok {
			continue
		}
		at, far := t.first(s)
		if at < 0 {
			return s, at, true
		}
		gain := far.times(t.rate(line, s))
		order := gain.compare(most)
		if !grows || order > 0 || order == 0 && t.columns[c] < t.columns[best.column] {
			best, stop, most, grows = s, at, gain, true
		}
	}
	return best, stop, grows
}

// upward returns the step of a column on which what a line tells grows.
func (t *table) upward(line, column int) (step, bool) {
	sign := t.lines[line][column].Sign()
	free := t.columns[column] < t.unknowns
	return step{column, sign < 0}, sign > 0 || sign < 0 && free
}

// first returns the line that stops a step first, and how far it is to there,
// or -1. Of several such lines it takes that of the smallest number, as Bland's
// rule asks for.
func (t *table) first(s step) (line int, far amount) {
	line = -1
	for i, thing := range t.told {
		rate := t.rate(i, s)
		if !t.kept[thing] || !stops(t.amount(i), rate) {
			continue
		}
		way := t.amount(i).times(quotient(exact.Int(-1), rate))
		order := way.compare(far)
		if line < 0 || order < 0 || order == 0 && thing < t.told[line] {
			line, far = i, way
		}
	}
	return line, far
}

// stops reports whether something that must not be negative gets to 0 when it
// changes at a rate. It is negative only while it is being brought there.
func stops(at amount, rate exact.Q) bool {
	if at.isNegative() {
		return rate.Sign() > 0
	}
	return rate.Sign() < 0
}

// never is for climbs to the top.
func never(amount) bool { return false }
