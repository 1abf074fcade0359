package repair_test

import (
	"cmp"
	"math/big"
	"slices"

	"voussoir/api"
	"voussoir/exact"
	"voussoir/repair"
)

// What the chapter says, computed with math/big and with all orders, as directly
// as it is said.

// rat returns a number as one of math/big.
func rat(x exact.Q) *big.Rat {
	r, ok := new(big.Rat).SetString(x.Text())
	if !ok {
		panic("not a number: " + x.Text())
	}
	return r
}

// fromInt returns an integer.
func fromInt(n int) *big.Rat { return new(big.Rat).SetInt64(int64(n)) }

// times returns a product.
func times(x, y *big.Rat) *big.Rat { return new(big.Rat).Mul(x, y) }

// areSame reports whether two steps are about the same thing.
func areSame(a, b repair.Step) bool {
	bars := []api.StepKind{api.Take, api.Put}
	ways := []api.StepKind{api.Hold, api.Let}
	both := func(kinds []api.StepKind) bool {
		return slices.Contains(kinds, a.Kind) && slices.Contains(kinds, b.Kind)
	}
	return both(bars) && a.At == b.At || both(ways) && a.At == b.At || a.Kind == api.Act && b.Kind == api.Act
}

// isBefore reports whether step a precedes step b.
func isBefore(j repair.Job, a, b int) bool {
	return slices.Contains(j.Steps[b].After, a) || areSame(j.Steps[a], j.Steps[b]) && a < b
}

// areDone reports whether all steps that precede one are in a set.
func areDone(j repair.Job, done []int, step int) bool {
	for a := range j.Steps {
		if isBefore(j, a, step) && !slices.Contains(done, a) {
			return false
		}
	}
	return true
}

// isAllowedSet reports whether a set is allowed.
func isAllowedSet(j repair.Job, done []int) bool {
	for _, step := range done {
		if !areDone(j, done, step) {
			return false
		}
	}
	return true
}

// latest returns the step of a set with the greatest number that is about the
// same thing as another one, or nothing.
func latest(j repair.Job, done []int, like repair.Step) *repair.Step {
	var found *repair.Step
	for number := range j.Steps {
		if slices.Contains(done, number) && areSame(j.Steps[number], like) {
			found = &j.Steps[number]
		}
	}
	return found
}

// stageOf returns what a set of steps makes of a truss.
func stageOf(j repair.Job, done []int) repair.Stage {
	g := repair.Stage{Pushes: j.Pushes, Over: -1}
	for i := range j.Truss.Bars {
		there := !j.Absent[i]
		if s := latest(j, done, repair.Step{Kind: api.Take, At: i}); s != nil {
			there = s.Kind == api.Put
		}
		g.There = append(g.There, there)
	}
	for d := range 2 * len(j.Truss.Joints) {
		held := []bool{j.Truss.Joints[d/2].FixX, j.Truss.Joints[d/2].FixY}[d%2]
		if s := latest(j, done, repair.Step{Kind: api.Let, At: d}); s != nil {
			held = s.Kind == api.Hold
		}
		g.Held = append(g.Held, held)
	}
	if s := latest(j, done, repair.Step{Kind: api.Act}); s != nil {
		g.Pushes = s.Pushes
	}
	densities, ok := densitiesOf(j.Truss, g)
	g.Moves = !ok
	for i, b := range j.Truss.Bars {
		if ok && g.There[i] && g.Over == -1 {
			x := times(densities[i], rat(j.Margin))
			if x.Cmp(fromInt(b.Tension)) > 0 || x.Cmp(fromInt(-b.Squash)) < 0 {
				g.Over = i
			}
		}
	}
	return g
}

// ways returns by how much a bar gets longer, times its length, if one of its
// joints moves by 1 in each direction.
func ways(s api.Truss, b api.Bar) []*big.Rat {
	list := make([]*big.Rat, 2*len(s.Joints))
	for d := range list {
		list[d] = new(big.Rat)
	}
	x, y := s.Joints[b.B].X-s.Joints[b.A].X, s.Joints[b.B].Y-s.Joints[b.A].Y
	list[2*b.A], list[2*b.A+1] = fromInt(-x), fromInt(-y)
	list[2*b.B], list[2*b.B+1] = fromInt(x), fromInt(y)
	return list
}

// densitiesOf returns the density of each bar of a truss in a stage (0 for those
// that are not there), unless it can move.
func densitiesOf(s api.Truss, g repair.Stage) ([]*big.Rat, bool) {
	var table [][]*big.Rat // of each direction: what answers to moves, and the push
	for d := range 2 * len(s.Joints) {
		row := make([]*big.Rat, 2*len(s.Joints)+1)
		for k := range row {
			row[k] = new(big.Rat)
		}
		row[len(row)-1] = fromInt([]int{g.Pushes[d/2].X, g.Pushes[d/2].Y}[d%2])
		table = append(table, row)
	}
	for i, b := range s.Bars {
		list := ways(s, b)
		for d := range table {
			for k := range list {
				if g.There[i] {
					table[d][k].Add(table[d][k], times(fromInt(b.Stiff), times(list[d], list[k])))
				}
			}
		}
	}
	moves, ok := solved(table, g.Held)
	densities := make([]*big.Rat, len(s.Bars))
	for i, b := range s.Bars {
		densities[i] = new(big.Rat)
		for d, way := range ways(s, b) {
			if ok && g.There[i] {
				densities[i].Add(densities[i], times(fromInt(b.Stiff), times(way, moves[d])))
			}
		}
	}
	return densities, ok
}

// solved returns the only moves, 0 for held directions, with which the rows of
// the free ones are true; or false if there are others too.
func solved(table [][]*big.Rat, held []bool) ([]*big.Rat, bool) {
	last := len(held)
	moves := make([]*big.Rat, last)
	for d := range held {
		moves[d] = new(big.Rat)
		if held[d] {
			table[d] = slices.Repeat([]*big.Rat{new(big.Rat)}, last+1)
			table[d][d] = fromInt(1)
		}
	}
	for d := range held {
		p := d + slices.IndexFunc(table[d:], func(row []*big.Rat) bool { return row[d].Sign() != 0 })
		if p < d {
			return nil, false
		}
		table[d], table[p] = table[p], table[d]
		for other := range table {
			if other == d || table[other][d].Sign() == 0 {
				continue
			}
			factor := new(big.Rat).Quo(table[other][d], table[d][d])
			for k := range table[other] {
				table[other][k] = new(big.Rat).Sub(table[other][k], times(factor, table[d][k]))
			}
		}
	}
	for d := range moves {
		moves[d].Quo(table[d][last], table[d][d])
	}
	return moves, true
}

// world is a job, of which it is kept what is known about its sets.
type world struct {
	repair.Job
	safe map[string]bool
}

// worldOf returns the world of a job.
func worldOf(j repair.Job) world { return world{j, map[string]bool{}} }

// isSafe reports whether a set of steps is safe.
func (w world) isSafe(done []int) bool {
	key := intText(slices.Sorted(slices.Values(done)))
	if _, known := w.safe[key]; !known {
		g := stageOf(w.Job, done)
		w.safe[key] = !g.Moves && g.Over == -1
	}
	return w.safe[key]
}

// walk returns what Walk promises.
func (w world) walk(order []int) (int, api.Errno) {
	if !w.isSafe(nil) {
		return 0, api.ErrUnsafe
	}
	for i, step := range order {
		switch {
		case step < 0 || step >= len(w.Steps) || slices.Contains(order[:i], step) || !areDone(w.Job, order[:i], step):
			return i, api.ErrOrder
		case !w.isSafe(order[:i+1]):
			return i, api.ErrUnsafe
		}
	}
	if len(order) < len(w.Steps) {
		return len(order), api.ErrState
	}
	return len(order), api.OK
}

// orders returns all lists of steps that can be carried out completely, whether
// they have all steps or not.
func (w world) orders() [][]int {
	var list [][]int
	var longer func(order []int)
	longer = func(order []int) {
		if done, e := w.walk(order); done < len(order) || e != api.OK && e != api.ErrState {
			return
		}
		list = append(list, order)
		for step := range w.Steps {
			longer(append(slices.Clone(order), step))
		}
	}
	longer(nil)
	return list
}

// reach returns what Reach promises, from all orders.
func (w world) reach(orders [][]int) [][]int {
	var list [][]int
	for _, order := range orders {
		list = append(list, slices.Sorted(slices.Values(order)))
	}
	slices.SortFunc(list, func(a, b []int) int { return cmp.Or(cmp.Compare(len(a), len(b)), slices.Compare(a, b)) })
	return slices.CompactFunc(list, slices.Equal)
}

// best returns what Order promises, from all orders.
func (w world) best(orders [][]int) ([]int, bool) {
	full := slices.DeleteFunc(slices.Clone(orders), func(order []int) bool { return len(order) < len(w.Steps) })
	if len(full) == 0 {
		return nil, false
	}
	return slices.MinFunc(full, slices.Compare), true
}

// isSet reports whether a list is steps in strictly ascending order.
func (w world) isSet(list []int) bool {
	for i, step := range list {
		if step < 0 || step >= len(w.Steps) || i > 0 && list[i-1] >= step {
			return false
		}
	}
	return true
}

// needed returns the sets that must be among those that prove something, if a
// list of steps is.
func (w world) needed(list []int) [][]int {
	var sets [][]int
	for step := range w.Steps {
		if slices.Contains(list, step) || !areDone(w.Job, list, step) {
			continue
		}
		if more := slices.Sorted(slices.Values(append(slices.Clone(list), step))); w.isSafe(more) {
			sets = append(sets, more)
		}
	}
	return sets
}

// proves returns what Proves promises.
func (w world) proves(sets [][]int) bool {
	isTold := func(set []int) bool {
		return slices.ContainsFunc(sets, func(other []int) bool { return slices.Equal(set, other) })
	}
	if w.isSafe(nil) && !isTold(nil) {
		return false
	}
	for _, list := range sets {
		if !w.isSet(list) || len(list) == len(w.Steps) {
			return false
		}
	}
	for _, list := range sets {
		isMissing := func(more []int) bool { return !isTold(more) }
		if slices.ContainsFunc(w.needed(list), isMissing) {
			return false
		}
	}
	return true
}
