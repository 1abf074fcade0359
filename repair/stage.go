package repair

import (
	"slices"

	"voussoir/api"
	"voussoir/exact"
	"voussoir/truss"
)

// thing is what steps are about: a bar, a direction, or the pushes. Its kind is
// one of those that steps about it have, always the same one.
type thing struct {
	kind api.StepKind
	at   int
}

// about returns what a step is about.
func (s Step) about() thing {
	switch s.Kind {
	case api.Put:
		return thing{api.Take, s.At}
	case api.Let:
		return thing{api.Hold, s.At}
	}
	return thing{s.Kind, s.At}
}

// last returns the step of a set with the greatest number that is about a thing,
// if there is one.
func (j Job) last(s set, about thing) (Step, bool) {
	for number, step := range slices.Backward(j.Steps) {
		if s.has(number) && step.about() == about {
			return step, true
		}
	}
	return Step{}, false
}

// isThere reports whether a bar is there in a set.
func (j Job) isThere(s set, bar int) bool {
	if step, ok := j.last(s, thing{api.Take, bar}); ok {
		return step.Kind == api.Put
	}
	return !j.Absent[bar]
}

// isHeld reports whether a direction is held in a set.
func (j Job) isHeld(s set, direction int) bool {
	if step, ok := j.last(s, thing{api.Hold, direction}); ok {
		return step.Kind == api.Hold
	}
	joint := j.Truss.Joints[direction/2]
	if direction%2 == 0 {
		return joint.FixX
	}
	return joint.FixY
}

// pushes returns the pushes of a set.
func (j Job) pushes(s set) []api.Push {
	if step, ok := j.last(s, thing{kind: api.Act}); ok {
		return slices.Clone(step.Pushes)
	}
	return slices.Clone(j.Pushes)
}

// stage returns what a set makes of the truss.
func (j Job) stage(s set) Stage {
	g := Stage{Pushes: j.pushes(s), Over: -1}
	for bar := range len(j.Truss.Bars) {
		g.There = append(g.There, j.isThere(s, bar))
	}
	for direction := range j.directions() {
		g.Held = append(g.Held, j.isHeld(s, direction))
	}
	t, bars := j.truss(g)
	state, e := truss.Solve(t, g.Pushes)
	g.Moves = e != api.OK // what is valid has no other error, and no densities then
	for i, density := range state.Densities {
		if !isBorne(t.Bars[i], density.Times(j.Margin)) {
			g.Over = bars[i]
			break
		}
	}
	return g
}

// truss returns the truss of a stage, and the numbers that its bars have in the
// job.
func (j Job) truss(g Stage) (t api.Truss, bars []int) {
	t.Joints = slices.Clone(j.Truss.Joints)
	for joint := range t.Joints {
		t.Joints[joint].FixX, t.Joints[joint].FixY = g.Held[2*joint], g.Held[2*joint+1]
	}
	for bar, there := range g.There {
		if there {
			t.Bars, bars = append(t.Bars, j.Truss.Bars[bar]), append(bars, bar)
		}
	}
	return t, bars
}

// isBorne reports whether a bar bears a density.
func isBorne(b api.Bar, density exact.Q) bool {
	return exact.Between(exact.Int(int64(-b.Squash)), exact.Int(int64(b.Tension))).Has(density)
}

// isSafe reports whether a set is safe.
func (j Job) isSafe(s set) bool {
	g := j.stage(s)
	return !g.Moves && g.Over < 0
}
