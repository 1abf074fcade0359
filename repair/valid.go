package repair

import (
	"slices"

	"voussoir/api"
	"voussoir/exact"
	"voussoir/truss"
)

// Check returns OK if a job is valid.
func Check(j Job) api.Errno {
	if truss.Check(j.Truss) != api.OK || len(j.Absent) != len(j.Truss.Bars) || !j.arePushes(j.Pushes) || j.Margin.Sign() < 0 {
		return api.ErrArg
	}
	isWrong := func(s Step) bool { return !j.canDo(s) }
	if len(j.Steps) > api.MaxSteps || slices.ContainsFunc(j.Steps, isWrong) || !j.areOthers() {
		return api.ErrArg
	}
	return api.OK
}

// arePushes reports whether a list of pushes is valid for the truss.
func (j Job) arePushes(pushes []api.Push) bool {
	// The truss is valid, and has these densities: only the pushes can be wrong.
	_, e := truss.Carry(j.Truss, pushes, make([]exact.Q, len(j.Truss.Bars)))
	return e == api.OK
}

// canDo reports whether a step is valid, whatever must be done before it.
func (j Job) canDo(s Step) bool {
	switch s.Kind {
	case api.Take, api.Put:
		return len(s.Pushes) == 0 && isFrom(0, s.At, len(j.Truss.Bars)-1)
	case api.Hold, api.Let:
		return len(s.Pushes) == 0 && isFrom(0, s.At, j.directions()-1)
	case api.Act:
		return s.At == 0 && j.arePushes(s.Pushes)
	}
	return false
}

// areOthers reports whether what must be done before each step is other steps.
func (j Job) areOthers() bool {
	for number, s := range j.Steps {
		isWrong := func(other int) bool { return other == number || !j.hasStep(other) }
		if len(s.After) > api.MaxSteps || slices.ContainsFunc(s.After, isWrong) {
			return false
		}
	}
	return true
}

// hasStep reports whether an integer is the number of a step.
func (j Job) hasStep(n int) bool { return isFrom(0, n, len(j.Steps)-1) }

// directions returns the number of directions.
func (j Job) directions() int { return 2 * len(j.Truss.Joints) }

// isFrom reports whether an integer is from low to high.
func isFrom(low, x, high int) bool { return low <= x && x <= high }
