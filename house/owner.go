package house

import (
	"slices"

	"voussoir/api"
	"voussoir/crack"
	"voussoir/permit"
)

// addPlace adds a place.
func (s *state) addPlace(w words) (string, api.Errno) {
	name := w.names["NAME"]
	switch {
	case slices.Contains(s.places, name):
		return "", api.ErrTwice
	case len(s.places) >= api.MaxTowns:
		return "", api.ErrFull
	}
	s.places = with(s.places, name)
	return done, api.OK
}

// addRoad adds a road.
func (s *state) addRoad(w words) (string, api.Errno) {
	r := permit.Road{A: slices.Index(s.places, w.names["A"]), B: slices.Index(s.places, w.names["B"]), Length: w.wholes["LENGTH"]}
	for _, name := range w.bridges {
		r.Bridges = append(r.Bridges, s.find(name))
	}
	switch {
	case r.A < 0 || r.B < 0 || slices.Contains(r.Bridges, -1):
		return "", api.ErrNone
	case r.A == r.B || r.Length > api.MaxLength || len(r.Bridges) > api.MaxCrossed:
		return "", api.ErrArg
	case len(s.roads) >= api.MaxRoads:
		return "", api.ErrFull
	}
	s.roads = with(s.roads, r)
	return done, api.OK
}

// addBridge adds a bridge without members.
func (s *state) addBridge(w words) (string, api.Errno) {
	b := bridge{name: w.names["NAME"], version: 1, Bridge: permit.Bridge{Impact: w.impact, Most: w.weather()}}
	switch {
	case s.find(b.name) >= 0:
		return "", api.ErrTwice
	case permit.CheckBridge(b.Bridge) != api.OK:
		return "", api.ErrArg
	case len(s.bridges) >= api.MaxKept:
		return "", api.ErrFull
	}
	s.bridges = with(s.bridges, b)
	return done, api.OK
}

// addMember adds a member to a bridge.
func (s *state) addMember(w words) (string, api.Errno) {
	at := s.find(w.names["NAME"])
	if at < 0 {
		return "", api.ErrNone
	}
	m := permit.Member{Bands: w.bands, Dead: w.spans["DEAD"], Low: w.numbers["LOW"], High: w.numbers["HIGH"]}
	s.renew(at, with(s.bridges[at].Members, m))
	return done, permit.CheckBridge(s.bridges[at].Bridge)
}

// changeMember changes what a member of a bridge bears.
func (s *state) changeMember(w words) (string, api.Errno) {
	at, number := s.find(w.names["NAME"]), w.wholes["MEMBER"]
	if at < 0 || number >= len(s.bridges[at].Members) {
		return "", api.ErrNone
	}
	m := s.bridges[at].Members[number]
	m.Low, m.High = w.numbers["LOW"], w.numbers["HIGH"]
	s.renew(at, changed(s.bridges[at].Members, number, m))
	return done, api.OK
}

// renew makes a new version of the bridge with a number, with other members.
func (s *state) renew(at int, members []permit.Member) {
	b := s.bridges[at]
	b.Members = members
	b.version++
	s.bridges = changed(s.bridges, at, b)
}

// addLaw adds a growth law.
func (s *state) addLaw(w words) (string, api.Errno) {
	switch {
	case len(s.elements) > 0:
		return "", api.ErrState
	case crack.CheckLaw(w.steps) != api.OK:
		return "", api.ErrArg
	case len(s.laws) >= api.MaxLaws:
		return "", api.ErrFull
	}
	s.laws = with(s.laws, w.steps)
	return done, api.OK
}

// addElement adds an element of a bridge.
func (s *state) addElement(w words) (string, api.Errno) {
	x := element{name: w.names["NAME"], bridge: w.names["BRIDGE"], law: w.wholes["LAW"], critical: w.numbers["CRITICAL"]}
	if s.find(x.bridge) < 0 {
		return "", api.ErrNone
	}
	e := s.newWatch().Add(x.name, x.law, w.spans["SIZE"], x.critical)
	s.elements = with(s.elements, x)
	return done, e
}

// fix tells the size of an element that was repaired.
func (s *state) fix(w words) (string, api.Errno) {
	return done, s.newWatch().Repair(w.names["NAME"], w.spans["SIZE"])
}
