package damage

import (
	"voussoir/api"
	"voussoir/exact"
	"voussoir/linear"
	"voussoir/truss"
)

// perSensor is how many unknowns a sensor has: its offset, its drift in a day
// and its reaction to a degree.
const perSensor = 3

// unknowns returns how many unknowns there are: those of the bars, and after
// them those of the sensors.
func (w Watch) unknowns() int { return len(w.Worst) + perSensor*len(w.Sensors) }

// span returns what an unknown may be.
func (w Watch) span(unknown int) exact.Span {
	if unknown < len(w.Worst) {
		return exact.Between(exact.Int(1), exact.Int(int64(w.Worst[unknown])))
	}
	unknown -= len(w.Worst)
	s := w.Sensors[unknown/perSensor]
	known := [perSensor]exact.Span{s.Offset, s.Drift, s.Warm}[unknown%perSensor]
	return exact.Between(known.Low, known.High)
}

// rows returns the rows that are kept just by the explanations.
func (w Watch) rows() []linear.Row {
	var rows []linear.Row
	for unknown := range w.unknowns() {
		rows = append(rows, within(w.alone(unknown), w.span(unknown))...)
	}
	for _, r := range w.Readings {
		off := w.Sensors[r.Sensor].Error
		rows = append(rows, within(w.shown(r), exact.Between(r.Value.Minus(off), r.Value.Plus(off)))...)
	}
	return rows
}

// within returns two rows: that a form is at most the upper end of a span, and
// that it is at least the lower one.
func within(form []exact.Q, s exact.Span) []linear.Row {
	least := linear.Row{Most: s.Low.Neg()}
	for _, c := range form {
		least.Coefs = append(least.Coefs, c.Neg())
	}
	return []linear.Row{{Coefs: form, Most: s.High}, least}
}

// alone returns the coefficients of one unknown alone.
func (w Watch) alone(unknown int) []exact.Q {
	form := make([]exact.Q, w.unknowns())
	form[unknown] = exact.Int(1)
	return form
}

// shown returns the coefficients of what a reading shows but for the error.
func (w Watch) shown(r Reading) []exact.Q {
	form := w.measured(w.Sensors[r.Sensor], w.Cases[r.Case])
	own := form[len(w.Worst)+perSensor*r.Sensor:]
	own[0], own[1], own[2] = exact.Int(1), exact.Int(int64(r.Day)), exact.Int(int64(r.Degrees))
	return form
}

// measured returns the coefficients of what a sensor measures under pushes. As
// no bar is spare, the densities are the same whatever the factors are, and the
// stretch of a bar grows with its factor.
func (w Watch) measured(s Sensor, pushes []api.Push) []exact.Q {
	form := make([]exact.Q, w.unknowns())
	shares := w.shares(s)
	for bar, density := range w.densities(pushes) {
		form[bar], _ = density.Times(shares[bar]).Over(exact.Int(int64(w.Truss.Bars[bar].Stiff)))
	}
	return form
}

// shares returns how much of the stretch of each bar a sensor measures. Of a
// move in a direction, these are the densities under a push of 1 there: the
// work of this push on the move is that of the densities on the stretches.
func (w Watch) shares(s Sensor) []exact.Q {
	if s.Strain {
		return w.alone(s.At)[:len(w.Worst)]
	}
	pushes := make([]api.Push, len(w.Truss.Joints))
	if s.At%2 == 0 {
		pushes[s.At/2].X = 1
	} else {
		pushes[s.At/2].Y = 1
	}
	return w.densities(pushes)
}

// densities returns the density of each bar under pushes.
func (w Watch) densities(pushes []api.Push) []exact.Q {
	state, _ := truss.Solve(w.Truss, pushes)
	return state.Densities
}
