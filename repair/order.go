package repair

import "slices"

// before returns the steps that precede a step.
func (j Job) before(step int) set {
	var s set
	for other := range len(j.Steps) {
		if j.precedes(other, step) {
			s = s.with(other)
		}
	}
	return s
}

// precedes reports whether step a precedes step b.
func (j Job) precedes(a, b int) bool {
	return slices.Contains(j.Steps[b].After, a) || a < b && j.Steps[a].about() == j.Steps[b].about()
}

// isAllowed reports whether all steps that precede those of a set are in it.
func (j Job) isAllowed(s set) bool {
	isTooEarly := func(step int) bool { return !s.hasAll(j.before(step)) }
	return !slices.ContainsFunc(s.list(), isTooEarly)
}

// isReady reports whether a step is not in a set, but all that precede it are.
func (j Job) isReady(s set, step int) bool { return !s.has(step) && s.hasAll(j.before(step)) }

// ready returns the steps that can be done next, in ascending order.
func (j Job) ready(s set) []int {
	var steps []int
	for step := range len(j.Steps) {
		if j.isReady(s, step) {
			steps = append(steps, step)
		}
	}
	return steps
}
