package permit

import (
	"slices"

	"voussoir/api"
	"voussoir/moving"
)

// CheckBridge returns OK if a bridge is valid.
func CheckBridge(b Bridge) api.Errno {
	isWrong := func(m Member) bool { return !areLines(m.Bands) }
	if len(b.Members) > api.MaxMembers || slices.ContainsFunc(b.Members, isWrong) || !areImpacts(b.Impact) || !isGauged(b.Most) {
		return api.ErrArg
	}
	return api.OK
}

// CheckNet returns OK if a network is valid.
func CheckNet(n Net) api.Errno {
	isWrong := func(b Bridge) bool { return CheckBridge(b) != api.OK }
	isNoRoad := func(r Road) bool { return !n.mayHave(r) }
	switch {
	case !isFrom(1, n.Places, api.MaxTowns):
		return api.ErrArg
	case len(n.Bridges) > api.MaxBridges || slices.ContainsFunc(n.Bridges, isWrong):
		return api.ErrArg
	case len(n.Roads) > api.MaxRoads || slices.ContainsFunc(n.Roads, isNoRoad):
		return api.ErrArg
	}
	return api.OK
}

// checkPassage returns OK if a bridge and a transport are valid.
func checkPassage(b Bridge, t Transport) api.Errno {
	if CheckBridge(b) != api.OK || !t.isValid() {
		return api.ErrArg
	}
	return api.OK
}

// checkTravel returns OK if a network, a transport and some weather are valid.
func checkTravel(n Net, t Transport, w api.Weather) api.Errno {
	switch {
	case CheckNet(n) != api.OK || !t.isValid():
		return api.ErrArg
	case !isGauged(w):
		return api.ErrRange
	}
	return api.OK
}

// checkJourney returns OK if, besides, two integers are numbers of places.
func checkJourney(n Net, t Transport, w api.Weather, from, to int) api.Errno {
	if e := checkTravel(n, t, w); e != api.OK {
		return e
	}
	if !n.hasPlace(from) || !n.hasPlace(to) {
		return api.ErrNone
	}
	return api.OK
}

// isValid reports whether a transport is valid. If the vehicles of the first
// ends of all spans and of the other ones are, so are all between them.
func (t Transport) isValid() bool {
	var these, those []moving.Axle
	for _, l := range t.Loads {
		these = append(these, moving.Axle{Load: l.Load.Low, Gap: l.Gap})
		those = append(those, moving.Axle{Load: l.Load.High, Gap: l.Gap})
	}
	return moving.CheckVehicle(these) == api.OK && moving.CheckVehicle(those) == api.OK &&
		0 <= t.From && t.From <= t.To && t.To <= api.MaxSpeed
}

// areLines reports whether bands stand for valid lines only. If the lines of the
// first ends of all spans and of the other ones are, so are all between them.
func areLines(bands []moving.Band) bool {
	var these, those []moving.Point
	for _, b := range bands {
		these = append(these, moving.Point{X: b.X, Y: b.Y.Low})
		those = append(those, moving.Point{X: b.X, Y: b.Y.High})
	}
	return moving.CheckLine(these) == api.OK && moving.CheckLine(those) == api.OK
}

// areImpacts reports whether a table of impact factors is valid.
func areImpacts(table []moving.Impact) bool {
	_, e := moving.Factors(table, 0, 0)
	return e == api.OK
}

// mayHave reports whether a road is a valid one of a network.
func (n Net) mayHave(r Road) bool {
	isNone := func(bridge int) bool { return !isFrom(0, bridge, len(n.Bridges)-1) }
	return n.hasPlace(r.A) && n.hasPlace(r.B) && r.A != r.B && isFrom(0, r.Length, api.MaxLength) &&
		len(r.Bridges) <= api.MaxOver && !slices.ContainsFunc(r.Bridges, isNone)
}

// hasPlace reports whether an integer is the number of a place.
func (n Net) hasPlace(place int) bool { return isFrom(0, place, n.Places-1) }

// isGauged reports whether the numbers of some weather are in their range.
func isGauged(w api.Weather) bool {
	return isFrom(0, w.Wind, api.MaxGauge) && isFrom(0, w.Water, api.MaxGauge) && isFrom(0, w.Tremor, api.MaxGauge)
}

// isFrom reports whether an integer is from low to high.
func isFrom(low, x, high int) bool { return low <= x && x <= high }
