package repair

import "slices"

// remembered returns a function that answers as another one does, and asks it
// only once about each set: states of trusses take long, and most sets are met
// on many ways.
func remembered(ask func(set) bool) func(set) bool {
	answers := map[set]bool{}
	return func(s set) bool {
		answer, known := answers[s]
		if !known {
			answer = ask(s)
			answers[s] = answer
		}
		return answer
	}
}

// leads returns a function that reports whether a set is safe and all steps that
// are not in it can be done after it.
func (j Job) leads() func(set) bool {
	var leads func(set) bool
	leads = remembered(func(s set) bool {
		goesOn := func(step int) bool { return leads(s.with(step)) }
		return j.isSafe(s) && (s == j.all() || slices.ContainsFunc(j.ready(s), goesOn))
	})
	return leads
}

// first returns the smallest order of all steps in which each set leads on. The
// empty set has to.
func (j Job) first(leads func(set) bool) []int {
	var order []int
	var s set
	for range len(j.Steps) {
		for _, step := range j.ready(s) {
			if leads(s.with(step)) {
				order, s = append(order, step), s.with(step)
				break
			}
		}
	}
	return order
}

// reached returns all sets that can be reached, those with fewer steps first.
func (j Job) reached() [][]int {
	isSafe := remembered(j.isSafe)
	level := map[set]bool{} // sets with equally many steps
	if isSafe(0) {
		level[0] = true
	}
	var lists [][]int
	for len(level) > 0 {
		lists = append(lists, ascending(level)...)
		level = j.next(level, isSafe)
	}
	return lists
}

// next returns the safe sets that have a step more than one of some sets.
func (j Job) next(level map[set]bool, isSafe func(set) bool) map[set]bool {
	next := map[set]bool{}
	for s := range level {
		for _, step := range j.ready(s) {
			if isSafe(s.with(step)) {
				next[s.with(step)] = true
			}
		}
	}
	return next
}

// ascending returns sets as lists, in ascending order.
func ascending(sets map[set]bool) [][]int {
	var lists [][]int
	for s := range sets {
		lists = append(lists, s.list())
	}
	slices.SortFunc(lists, slices.Compare)
	return lists
}

// isClosed reports whether sets have the empty set, and with each set all that
// have a step more which is ready, but for those that are not safe.
func (j Job) isClosed(sets map[set]bool) bool {
	isSafe := remembered(j.isSafe)
	isMissing := func(s set) bool { return !sets[s] && isSafe(s) }
	if isMissing(0) {
		return false
	}
	for s := range sets {
		lacks := func(step int) bool { return isMissing(s.with(step)) }
		if slices.ContainsFunc(j.ready(s), lacks) {
			return false
		}
	}
	return true
}
