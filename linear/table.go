package linear

import (
	"slices"

	"voussoir/exact"
)

// table stands at a point, and tells how everything changes around it.
//
// It is about the unknowns, the rooms of the rows (the room of a row is what
// its sum leaves up to its Most) and a form. They are numbered: first the
// unknowns, then the rooms, last the form. Those of the columns are 0 at the
// point; each line tells another one as a sum of multiples of them.
//
// A room, and the form, is measured in a unit in which its factors are
// integers. All lines are multiplied by one scale, as in the elimination of
// Bareiss: then their factors are minors of these integers, and no fraction
// has to be brought to lowest terms on the way.
type table struct {
	unknowns int
	units    []exact.Q
	lines    [][]exact.Q // a factor for each column, and the two numbers of the amount
	scale    exact.Q     // it is positive
	told     []int       // what each line tells
	columns  []int       // what each column stands for
	kept     []bool      // what must not be negative: the rooms of rows that are kept
}

// newTable returns a table that stands at the point 0, and keeps no row yet.
func newTable(rows []Row, form []exact.Q) *table {
	t := &table{unknowns: len(form), scale: exact.Int(1), columns: upTo(len(form))}
	for range len(form) {
		t.units = append(t.units, exact.Int(1))
	}
	for i, r := range rows {
		// Few sums of squares are equal, so that few rows still end at one point.
		t.add(opposite(r.Coefs), amount{r.Most, exact.Int(int64(1 + i*i))})
	}
	t.add(form, amount{})
	t.kept = make([]bool, len(t.units))
	return t
}

// add adds a line that tells the sum of multiples of the unknowns and an amount.
func (t *table) add(factors []exact.Q, at amount) {
	var unit exact.Q
	for _, f := range factors {
		unit = measure(unit, f)
	}
	if unit.Sign() == 0 {
		unit = exact.Int(1)
	}
	line := append(slices.Clone(factors), at.number, at.nudge)
	for j, x := range line {
		line[j] = quotient(x, unit)
	}
	t.told = append(t.told, len(t.units))
	t.units = append(t.units, unit)
	t.lines = append(t.lines, line)
}

// clone returns a table that can be changed without changing this one.
func (t *table) clone() *table {
	c := *t
	c.lines = slices.Clone(t.lines)
	for i, line := range t.lines {
		c.lines[i] = slices.Clone(line)
	}
	c.told, c.columns, c.kept = slices.Clone(t.told), slices.Clone(t.columns), slices.Clone(t.kept)
	return &c
}

// pivot exchanges what a line tells and what a column stands for, where the
// factor is not 0. The point moves to where what the line told is 0.
func (t *table) pivot(line, column int) {
	factor := t.lines[line][column]
	t.lines[line][column] = t.scale.Neg()
	if factor.Sign() > 0 {
		t.turn(line)
	}
	for i := range len(t.lines) {
		if i != line {
			t.insert(i, column, t.lines[line], factor.Abs())
		}
	}
	t.scale = factor.Abs()
	t.told[line], t.columns[column] = t.columns[column], t.told[line]
}

// insert puts another line, which has a new scale and tells what a column stood
// for, into the line i, and brings that to the new scale.
func (t *table) insert(i, column int, other []exact.Q, scale exact.Q) {
	line := t.lines[i]
	factor := line[column]
	if factor.Sign() == 0 && equal(scale, t.scale) {
		return
	}
	line[column] = exact.Q{}
	for j := range len(line) {
		line[j] = quotient(line[j].Times(scale).Plus(factor.Times(other[j])), t.scale)
	}
}

// turn lets a line tell the opposite.
func (t *table) turn(line int) { t.lines[line] = opposite(t.lines[line]) }

// formLine returns the line of the form, which never gets into a column.
func (t *table) formLine() int { return len(t.lines) - 1 }

// lineOf returns the line that tells something, or -1 if a column stands for it.
func (t *table) lineOf(thing int) int { return slices.Index(t.told, thing) }

// room returns the number of a row's room among all.
func (t *table) room(row int) int { return t.unknowns + row }

// amount returns what a line tells at the point, in its unit and scale.
func (t *table) amount(line int) amount {
	n := len(t.columns)
	return amount{t.lines[line][n], t.lines[line][n+1]}
}

// value returns what a line tells at the point.
func (t *table) value(line int) exact.Q {
	return quotient(t.amount(line).number.Times(t.units[t.told[line]]), t.scale)
}

// point returns the point.
func (t *table) point() []exact.Q {
	point := make([]exact.Q, t.unknowns)
	for i, thing := range t.told {
		if thing < t.unknowns {
			point[thing] = t.value(i)
		}
	}
	return point
}

// ray returns how the unknowns change on a step.
func (t *table) ray(s step) []exact.Q {
	ray := make([]exact.Q, t.unknowns)
	if thing := t.columns[s.column]; thing < t.unknowns {
		ray[thing] = s.direction()
	}
	for i, thing := range t.told {
		if thing < t.unknowns {
			ray[thing] = quotient(t.rate(i, s), t.scale)
		}
	}
	return ray
}

// weights returns the weights of rows whose sum says that what a line tells is
// at most what it is here. None is negative if no step makes it grow.
func (t *table) weights(line int) []exact.Q {
	weights := make([]exact.Q, len(t.lines)-1)
	unit := quotient(t.units[t.told[line]], t.scale)
	for c, thing := range t.columns {
		if thing >= t.unknowns {
			factor := t.lines[line][c].Times(unit)
			weights[thing-t.unknowns] = quotient(factor.Neg(), t.units[thing])
		}
	}
	return weights
}

// refusal returns weights that prove that no point keeps a row together with
// those that are kept: its room is as great as it gets, and still negative.
func (t *table) refusal(row int) []exact.Q {
	weights := t.weights(t.lineOf(t.room(row)))
	weights[row] = exact.Int(1)
	return weights
}

// opposite returns the opposite of each number.
func opposite(list []exact.Q) []exact.Q {
	turned := make([]exact.Q, len(list))
	for i, x := range list {
		turned[i] = x.Neg()
	}
	return turned
}

// measure returns the greatest number of which both are multiples by integers.
func measure(x, y exact.Q) exact.Q {
	if y.Sign() == 0 {
		return x
	}
	_, parts := quotient(x, y).Parts()
	return quotient(y.Abs(), parts)
}

// quotient returns x / y, where y is not 0.
func quotient(x, y exact.Q) exact.Q {
	q, _ := x.Over(y)
	return q
}
