package damage

import (
	"slices"

	"voussoir/api"
	"voussoir/exact"
	"voussoir/truss"
)

// Check returns OK if a watch is valid, and its truss neither can move nor has spare bars.
func Check(w Watch) api.Errno {
	if !w.isValid() {
		return api.ErrArg
	}
	spare, loose, _ := truss.Degrees(w.Truss)
	switch {
	case loose > 0:
		return api.ErrMoves
	case spare > 0:
		return api.ErrSpare
	}
	return api.OK
}

// isValid reports whether a watch is valid, whatever its truss can do.
func (w Watch) isValid() bool {
	isWorst := func(n int) bool { return isFrom(1, n, api.MaxWorst) }
	return truss.Check(w.Truss) == api.OK && len(w.Worst) == len(w.Truss.Bars) &&
		areRight(w.Worst, api.MaxSensed, isWorst) &&
		areRight(w.Cases, api.MaxCases, w.isCase) &&
		areRight(w.Sensors, api.MaxSensors, w.isSensor) &&
		areRight(w.Readings, api.MaxReadings, w.isReading)
}

// isCase reports whether a list of pushes is valid.
func (w Watch) isCase(pushes []api.Push) bool {
	// The truss is valid, and has these densities: only the pushes can be wrong.
	_, e := truss.Carry(w.Truss, pushes, make([]exact.Q, len(w.Truss.Bars)))
	return e == api.OK
}

// isSensor reports whether a sensor is valid.
func (w Watch) isSensor(s Sensor) bool {
	places := 2 * len(w.Truss.Joints)
	if s.Strain {
		places = len(w.Truss.Bars)
	}
	return isFrom(0, s.At, places-1) && s.Error.Sign() >= 0
}

// isReading reports whether a reading is valid.
func (w Watch) isReading(r Reading) bool {
	return isFrom(0, r.Sensor, len(w.Sensors)-1) && isFrom(0, r.Case, len(w.Cases)-1) &&
		isFrom(0, r.Day, api.MaxDay) && isFrom(-api.MaxDegrees, r.Degrees, api.MaxDegrees)
}

// areRight reports whether a list is not too long and none of its elements is
// wrong.
func areRight[T any](list []T, most int, isRight func(T) bool) bool {
	return len(list) <= most && !slices.ContainsFunc(list, func(x T) bool { return !isRight(x) })
}

// isFrom reports whether an integer is from low to high.
func isFrom(low, x, high int) bool { return low <= x && x <= high }
