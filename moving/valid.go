package moving

import (
	"slices"

	"voussoir/api"
	"voussoir/exact"
)

// CheckLine returns OK if a line is valid.
func CheckLine(l []Point) api.Errno {
	level := func(p Point) bool { return p.Y.Sign() == 0 }
	ascends := func(p, q Point) bool { return p.X.Cmp(q.X) < 0 }
	if !isFrom(2, len(l), api.MaxPoints) || !level(l[0]) || !level(l[len(l)-1]) || !eachTwo(l, ascends) {
		return api.ErrArg
	}
	return api.OK
}

// CheckVehicle returns OK if a vehicle is valid.
func CheckVehicle(v []Axle) api.Errno {
	wrong := func(a Axle) bool { return isNegative(a.Load) || isNegative(a.Gap) }
	if !isFrom(1, len(v), api.MaxAxles) || slices.ContainsFunc(v, wrong) || v[len(v)-1].Gap.Sign() != 0 {
		return api.ErrArg
	}
	return api.OK
}

// checkImpacts returns OK if a table of impact factors is valid.
func checkImpacts(table []Impact) api.Errno {
	wrong := func(i Impact) bool { return i.From > api.MaxSpeed || isNegative(i.Factor) }
	ascends := func(i, j Impact) bool { return i.From < j.From }
	if !isFrom(1, len(table), api.MaxImpacts) || table[0].From != 0 || slices.ContainsFunc(table, wrong) || !eachTwo(table, ascends) {
		return api.ErrArg
	}
	return api.OK
}

// first returns the first of some errors, or OK if there is none.
func first(errors ...api.Errno) api.Errno {
	for _, e := range errors {
		if e != api.OK {
			return e
		}
	}
	return api.OK
}

// unless returns an error, or OK if all is well.
func unless(well bool, e api.Errno) api.Errno {
	if well {
		return api.OK
	}
	return e
}

// eachTwo reports whether a condition is true of each element and the next one.
func eachTwo[T any](list []T, condition func(a, b T) bool) bool {
	for i := range len(list) - 1 {
		if !condition(list[i], list[i+1]) {
			return false
		}
	}
	return true
}

// isNegative reports whether a number is below 0.
func isNegative(x exact.Q) bool { return x.Sign() < 0 }

// isFrom reports whether an integer is from low to high.
func isFrom(low, x, high int) bool { return low <= x && x <= high }
