package repair

import (
	"slices"

	"voussoir/api"
)

// set is a set of steps: a bit for each step that is in it.
type set uint

// has reports whether a step is in a set.
func (s set) has(step int) bool { return s>>step&1 == 1 }

// with returns a set with a step more.
func (s set) with(step int) set { return s | 1<<step }

// hasAll reports whether all steps of another set are in a set.
func (s set) hasAll(other set) bool { return other&^s == 0 }

// list returns the steps of a set in ascending order.
func (s set) list() []int {
	var steps []int
	for step := range api.MaxSteps {
		if s.has(step) {
			steps = append(steps, step)
		}
	}
	return steps
}

// all returns the set of all steps.
func (j Job) all() set { return 1<<len(j.Steps) - 1 }

// gathered returns the set of some steps, which may be in any order.
func (j Job) gathered(steps []int) (set, api.Errno) {
	var s set
	for _, step := range steps {
		switch {
		case !j.hasStep(step):
			return 0, api.ErrRange
		case s.has(step):
			return 0, api.ErrTwice
		}
		s = s.with(step)
	}
	return s, api.OK
}

// told returns the sets of which somebody tells that they prove something, if
// each of them is a list in ascending order and none has all steps.
func (j Job) told(sets [][]int) (map[set]bool, bool) {
	told := map[set]bool{}
	for _, steps := range sets {
		s, e := j.gathered(steps)
		if e != api.OK || !slices.IsSorted(steps) || s == j.all() {
			return nil, false
		}
		told[s] = true
	}
	return told, true
}
