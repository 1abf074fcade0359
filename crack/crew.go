package crack

import (
	"iter"

	"voussoir/api"
)

// crew is a valid list of teams.
type crew []api.Team

// calendar returns how many periods there are.
func (c crew) calendar() int {
	if len(c) == 0 {
		return 0
	}
	return len(c[0].Slots)
}

// slots returns how many visits a team can make in a period.
func (c crew) slots(v api.Visit) int { return c[v.Team].Slots[v.Period] }

// visits yields all visits for which there is a slot, the smallest one first.
func (c crew) visits() iter.Seq[api.Visit] {
	return func(yield func(api.Visit) bool) {
		for period := range c.calendar() {
			for team := range len(c) {
				v := api.Visit{Period: period, Team: team}
				if c.slots(v) > 0 && !yield(v) {
					return
				}
			}
		}
	}
}

// suits reports whether a visit suits a job.
func (c crew) suits(v api.Visit, j api.Job) bool {
	last := min(c.calendar()-1, j.Deadline)
	return isFrom(0, v.Team, len(c)-1) && isFrom(0, v.Period, last) && c[v.Team].Skills>>j.Access&1 == 1
}
