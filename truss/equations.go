package truss

import (
	"slices"

	"voussoir/api"
	"voussoir/exact"
)

// equations say of each free direction that the moves, times some factors, add
// up to the push in it. They have a row for each direction, with a factor for
// each direction and then the push; only those of free directions matter.
//
// The factors are symmetric, so only those from the diagonal on are kept up to
// date. And no move takes negative work: where a factor on the diagonal is 0, so
// is its whole row, and no rows need to be exchanged. They are eliminated by the
// method of Bareiss: all numbers are integers, minors of those at first, and
// none has to be brought to lowest terms on the way.
type equations struct {
	free []int
	rows [][]exact.Q
}

// newEquations returns the equations of a truss, with pushes or without any.
func newEquations(t api.Truss, pushes []api.Push) *equations {
	q := &equations{free: freeOnes(t), rows: make([][]exact.Q, directions(t))}
	for d := range q.rows {
		q.rows[d] = make([]exact.Q, len(q.rows)+1)
	}
	for d, push := range loads(pushes) {
		q.rows[d][len(q.rows)] = push
	}
	for _, b := range t.Bars {
		q.add(pulls(t, b), exact.Int(int64(b.Stiff)))
	}
	return q
}

// add adds the forces with which a bar answers to moves.
func (q *equations) add(pulls map[int]exact.Q, stiff exact.Q) {
	for d, pull := range pulls {
		for other, factor := range pulls {
			q.rows[d][other] = q.rows[d][other].Plus(stiff.Times(pull).Times(factor))
		}
	}
}

// eliminate takes each free direction out of the rows of those after it, and
// returns how many directions depend on no others.
func (q *equations) eliminate() (rank int) {
	scale := exact.Int(1)
	for i, d := range q.free {
		pivot := q.rows[d][d]
		if pivot.Sign() == 0 {
			continue
		}
		for n := range len(q.free) - i - 1 {
			q.takeOut(d, q.free[i+1+n:], scale)
		}
		scale = pivot
		rank++
	}
	return rank
}

// takeOut takes a direction out of the row of the first one of those after it.
// The scale is the pivot of the last step.
func (q *equations) takeOut(d int, after []int, scale exact.Q) {
	from, row := q.rows[d], q.rows[after[0]]
	factor := from[after[0]]
	for _, column := range append(slices.Clone(after), len(q.rows)) {
		row[column] = quotient(from[d].Times(row[column]).Minus(factor.Times(from[column])), scale)
	}
}

// solution returns the moves times a scale with which all of them are integers.
// It asks for equations in which each free direction has been eliminated.
func (q *equations) solution() (scale exact.Q, moves []exact.Q) {
	scale, moves = exact.Int(1), make([]exact.Q, len(q.rows))
	if len(q.free) == 0 {
		return scale, moves
	}
	last := q.free[len(q.free)-1]
	scale = q.rows[last][last]
	for _, d := range slices.Backward(q.free) {
		row := q.rows[d]
		sum := row[len(q.rows)].Times(scale)
		for other := d + 1; other < len(q.rows); other++ {
			sum = sum.Minus(row[other].Times(moves[other])) // 0 for those that are held
		}
		moves[d] = quotient(sum, row[d])
	}
	return scale, moves
}
