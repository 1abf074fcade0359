package crack_test

import (
	"math/big"
	"slices"

	"voussoir/api"
	"voussoir/crack"
	"voussoir/exact"
)

// What the chapter says, computed with math/big and by trying all that there
// is, as directly as it is said.

// rat returns a number as one of math/big.
func rat(x exact.Q) *big.Rat {
	r, ok := new(big.Rat).SetString(x.Text())
	if !ok {
		panic("not a number: " + x.Text())
	}
	return r
}

// fromRat returns a number of math/big as one of package exact.
func fromRat(x *big.Rat) exact.Q { return num(x.RatString()) }

// ends are the ends of a span.
type ends struct{ low, high *big.Rat }

// endsOf returns the ends of a span.
func endsOf(s exact.Span) ends { return ends{rat(s.Low), rat(s.High)} }

// are reports whether a span has these ends, the lower one first.
func (s ends) are(span exact.Span) bool {
	return rat(span.Low).Cmp(s.low) == 0 && rat(span.High).Cmp(s.high) == 0
}

// text returns the ends as a text.
func (s ends) text() string { return s.low.RatString() + ".." + s.high.RatString() }

// growthAt returns how much a crack of a size grows in a period.
func growthAt(l []crack.Step, size *big.Rat) ends {
	var last ends
	for _, s := range l {
		if rat(s.From).Cmp(size) <= 0 {
			last = endsOf(s.Grow)
		}
	}
	return last
}

// floor returns the greatest multiple of a grid that is at most x, where x is
// not negative.
func floor(x, grid *big.Rat) *big.Rat {
	steps := new(big.Rat).Quo(x, grid)
	n := new(big.Int).Div(steps.Num(), steps.Denom())
	return new(big.Rat).Mul(new(big.Rat).SetInt(n), grid)
}

// grow returns the bounds of a size after some periods.
func grow(l []crack.Step, size ends, periods int, grid *big.Rat) ends {
	for range periods {
		low := new(big.Rat).Add(size.low, growthAt(l, size.low).low)
		high := new(big.Rat).Add(size.high, growthAt(l, size.high).high)
		if grid.Sign() > 0 {
			low = floor(low, grid)
			if near := floor(high, grid); near.Cmp(high) < 0 {
				high = new(big.Rat).Add(near, grid)
			}
		}
		size = ends{low, high}
	}
	return size
}

// deadline returns the greatest number of periods after which the upper end is
// at most the critical size, and -1 if it is above that at once.
func deadline(l []crack.Step, size ends, critical, grid *big.Rat) int {
	last := -1
	for n := range api.MaxAhead + 1 {
		if size.high.Cmp(critical) <= 0 {
			last = n
		}
		size = grow(l, size, 1, grid)
	}
	return last
}

// common returns the sizes that an expected span and some findings have.
func common(expected exact.Span, findings []exact.Span, used []int) (ends, bool) {
	all := endsOf(expected)
	for _, n := range used {
		f := endsOf(findings[n])
		if f.low.Cmp(all.low) > 0 {
			all.low = f.low
		}
		if f.high.Cmp(all.high) < 0 {
			all.high = f.high
		}
	}
	return all, all.low.Cmp(all.high) <= 0
}

// members returns the numbers of the bits that are set.
func members(bits, most int) []int {
	var list []int
	for n := range most {
		if bits>>n&1 == 1 {
			list = append(list, n)
		}
	}
	return list
}

// reconcile tries all sets of findings, and returns the best one and what it
// leaves of the size.
func reconcile(expected exact.Span, findings []exact.Span) (best []int, size ends) {
	size = endsOf(expected)
	for bits := range 1 << len(findings) {
		used := members(bits, len(findings))
		all, agree := common(expected, findings, used)
		if !agree || len(used) < len(best) {
			continue
		}
		higher := all.high.Cmp(size.high)
		if len(used) > len(best) || higher > 0 || higher == 0 && slices.Compare(used, best) < 0 {
			best, size = used, all
		}
	}
	return best, size
}

// suits reports whether a visit suits a job.
func suits(v api.Visit, j api.Job, t []api.Team) bool {
	if v.Team < 0 || v.Team >= len(t) || v.Period < 0 || v.Period >= len(t[v.Team].Slots) {
		return false
	}
	return t[v.Team].Skills&(1<<j.Access) != 0 && v.Period <= j.Deadline
}

// firstWrong returns what CheckPlan says of a list.
func firstWrong(j []api.Job, t []api.Team, plan []api.Visit) int {
	for i := range j {
		if i >= len(plan) || !suits(plan[i], j[i], t) {
			return i
		}
		same := 0
		for _, v := range plan[:i+1] {
			if v.Period == plan[i].Period && v.Team == plan[i].Team {
				same++
			}
		}
		if same > t[plan[i].Team].Slots[plan[i].Period] {
			return i
		}
	}
	if len(plan) > len(j) {
		return len(j)
	}
	return -1
}

// firstPlan tries all lists of visits that begin with some, the smallest one
// first, and returns the first one that is a plan.
func firstPlan(j []api.Job, t []api.Team, begun []api.Visit) ([]api.Visit, bool) {
	if len(begun) == len(j) {
		return begun, true
	}
	for period := range calendarOf(t) {
		for team := range t {
			more := append(slices.Clone(begun), api.Visit{Period: period, Team: team})
			if firstWrong(j[:len(more)], t, more) >= 0 {
				continue
			}
			if plan, found := firstPlan(j, t, more); found {
				return plan, true
			}
		}
	}
	return nil, false
}

// calendarOf returns how many periods there are.
func calendarOf(t []api.Team) int {
	if len(t) == 0 {
		return 0
	}
	return len(t[0].Slots)
}

// pick returns the jobs with some numbers.
func pick(j []api.Job, numbers []int) []api.Job {
	var list []api.Job
	for _, n := range numbers {
		list = append(list, j[n])
	}
	return list
}

// isBlock reports whether a list of numbers is a block.
func isBlock(j []api.Job, t []api.Team, block []int) bool {
	for i, n := range block {
		if n < 0 || n >= len(j) || slices.Contains(block[:i], n) {
			return false
		}
	}
	slots := 0
	for team := range t {
		for period, n := range t[team].Slots {
			v := api.Visit{Period: period, Team: team}
			if slices.ContainsFunc(pick(j, block), func(one api.Job) bool { return suits(v, one, t) }) {
				slots += n
			}
		}
	}
	return len(block) > slots
}

// hasBlock tries all sets of jobs, and reports whether one of them is a block.
func hasBlock(j []api.Job, t []api.Team) bool {
	for bits := range 1 << len(j) {
		if isBlock(j, t, members(bits, len(j))) {
			return true
		}
	}
	return false
}

// matched returns how many jobs can have visits at the same time. It counts each
// slot by itself, and looks for one for each job, from which others may be moved
// away.
func matched(j []api.Job, t []api.Team) int {
	var slots []api.Visit
	for team := range t {
		for period, n := range t[team].Slots {
			slots = append(slots, slices.Repeat([]api.Visit{{Period: period, Team: team}}, min(n, len(j)))...)
		}
	}
	owner := slices.Repeat([]int{-1}, len(slots))
	var find func(job int, seen []bool) bool
	find = func(job int, seen []bool) bool {
		for i, v := range slots {
			if seen[i] || !suits(v, j[job], t) {
				continue
			}
			seen[i] = true
			if owner[i] < 0 || find(owner[i], seen) {
				owner[i] = job
				return true
			}
		}
		return false
	}
	count := 0
	for job := range j {
		if find(job, make([]bool, len(slots))) {
			count++
		}
	}
	return count
}

// smallestPlan fixes one visit after the other: the smallest one with which all
// jobs behind it can have theirs.
func smallestPlan(j []api.Job, t []api.Team) ([]api.Visit, bool) {
	if matched(j, t) < len(j) {
		return nil, false
	}
	var left []api.Team
	for _, one := range t {
		left = append(left, api.Team{Skills: one.Skills, Slots: slices.Clone(one.Slots)})
	}
	var plan []api.Visit
	for i := range j {
		plan = append(plan, firstChance(j[i:], left))
	}
	return plan, true
}

// firstChance takes the slot of the smallest visit that the first job can have
// so that all others can have one, and returns it.
func firstChance(j []api.Job, left []api.Team) api.Visit {
	for period := range calendarOf(left) {
		for team := range left {
			v, slots := (api.Visit{Period: period, Team: team}), left[team].Slots
			if slots[period] == 0 || !suits(v, j[0], left) {
				continue
			}
			slots[period]--
			if matched(j[1:], left) == len(j)-1 {
				return v
			}
			slots[period]++
		}
	}
	panic("no chance")
}

// leftOut returns the jobs that remain when, from the last one to the first one,
// each is left out without which the others still have no plan. Jobs have none
// just if there is a block of them.
func leftOut(j []api.Job, t []api.Team) []int {
	kept := members(1<<len(j)-1, len(j))
	for n := len(j) - 1; n >= 0; n-- {
		var rest []int
		for _, k := range kept {
			if k != n {
				rest = append(rest, k)
			}
		}
		if hasBlock(pick(j, rest), t) {
			kept = rest
		}
	}
	return kept
}
