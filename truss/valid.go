package truss

import (
	"slices"

	"voussoir/api"
)

// Check returns OK if a truss is valid.
func Check(t api.Truss) api.Errno {
	if len(t.Joints) > api.MaxJoints || len(t.Bars) > api.MaxBars {
		return api.ErrArg
	}
	wrongBar := func(b api.Bar) bool { return !isBar(b, len(t.Joints)) }
	if slices.ContainsFunc(t.Joints, isOutside) || meet(t.Joints) || slices.ContainsFunc(t.Bars, wrongBar) {
		return api.ErrArg
	}
	return api.OK
}

// checkPushed returns OK if a truss and a list of pushes are valid.
func checkPushed(t api.Truss, pushes []api.Push) api.Errno {
	if e := Check(t); e != api.OK {
		return e
	}
	if len(pushes) != len(t.Joints) || slices.ContainsFunc(pushes, isTooStrong) {
		return api.ErrArg
	}
	return api.OK
}

// checkListed returns OK if, besides, a list has as many numbers as it should.
func checkListed(t api.Truss, pushes []api.Push, length, wanted int) api.Errno {
	if e := checkPushed(t, pushes); e != api.OK {
		return e
	}
	if length != wanted {
		return api.ErrArg
	}
	return api.OK
}

// isOutside reports whether a joint is too far away.
func isOutside(j api.Joint) bool {
	return !isFrom(-api.MaxPlace, j.X, api.MaxPlace) || !isFrom(-api.MaxPlace, j.Y, api.MaxPlace)
}

// isTooStrong reports whether a push is greater than pushes may be.
func isTooStrong(p api.Push) bool {
	return !isFrom(-api.MaxPush, p.X, api.MaxPush) || !isFrom(-api.MaxPush, p.Y, api.MaxPush)
}

// isBar reports whether a bar of a truss with so many joints is valid.
func isBar(b api.Bar, joints int) bool {
	return b.A != b.B && isFrom(0, b.A, joints-1) && isFrom(0, b.B, joints-1) &&
		isFrom(1, b.Stiff, api.MaxStiff) && isFrom(0, b.Tension, api.MaxBear) && isFrom(0, b.Squash, api.MaxBear)
}

// meet reports whether two joints are at the same place.
func meet(joints []api.Joint) bool {
	for i, j := range joints {
		here := func(other api.Joint) bool { return other.X == j.X && other.Y == j.Y }
		if slices.ContainsFunc(joints[:i], here) {
			return true
		}
	}
	return false
}

// isFrom reports whether an integer is from low to high.
func isFrom(low, x, high int) bool { return low <= x && x <= high }
