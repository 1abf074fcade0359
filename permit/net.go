package permit

import (
	"slices"

	"voussoir/api"
)

// Road joins two places over bridges.
type Road struct {
	A, B, Length int
	Bridges      []int // numbers of bridges that it goes over
}

// Net is places, bridges and roads.
type Net struct {
	Places  int
	Bridges []Bridge
	Roads   []Road
}

// Permit is a route, or the places that are reached if there is none.
type Permit struct {
	Roads   []int // in their order
	Length  int
	Reached []bool // of each place, if there is no route
}

// Usable says for each road whether a transport may use it.
func Usable(n Net, t Transport, w api.Weather) ([]bool, api.Errno) {
	if e := checkTravel(n, t, w); e != api.OK {
		return nil, e
	}
	return n.usable(t, w), api.OK
}

// Route returns the best route of a transport, or what it can reach.
func Route(n Net, t Transport, w api.Weather, from, to int) (Permit, api.Errno) {
	if e := checkJourney(n, t, w, from, to); e != api.OK {
		return Permit{}, e
	}
	usable := n.usable(t, w)
	ways := n.ways(usable, to)
	if ways[from].isNone() {
		return Permit{Reached: n.reached(usable, from)}, api.ErrNoWay
	}
	return Permit{Roads: n.best(usable, ways, from), Length: ways[from].length}, api.OK
}

// Keeps returns how far roads can be followed.
func Keeps(n Net, t Transport, w api.Weather, from, to int, roads []int) (at int, e api.Errno) {
	if e := checkJourney(n, t, w, from, to); e != api.OK {
		return 0, e
	}
	at, end := n.follow(n.usable(t, w), from, roads)
	if at < len(roads) || end != to {
		return at, api.ErrState
	}
	return at, api.OK
}

// usable says for each road whether it is usable.
func (n Net) usable(t Transport, w api.Weather) []bool {
	var safe []bool // of each bridge
	for _, b := range n.Bridges {
		safe = append(safe, b.isOpen(w) && b.failing(t) < 0)
	}
	isNotSafe := func(bridge int) bool { return !safe[bridge] }
	var usable []bool
	for _, r := range n.Roads {
		usable = append(usable, !slices.ContainsFunc(r.Bridges, isNotSafe))
	}
	return usable
}

// reached says for each place whether usable roads lead to it from a place, or
// back: roads can be used in both directions.
func (n Net) reached(usable []bool, from int) []bool {
	var reached []bool
	for _, w := range n.ways(usable, from) {
		reached = append(reached, !w.isNone())
	}
	return reached
}

// follow returns how many of some roads can be followed from a place, and where
// the last one of these ends.
func (n Net) follow(usable []bool, from int, roads []int) (at, end int) {
	passed := make([]bool, n.Places)
	for at, road := range roads {
		passed[from] = true
		if !isFrom(0, road, len(n.Roads)-1) || !usable[road] {
			return at, from
		}
		next, leads := n.Roads[road].from(from)
		if !leads || passed[next] {
			return at, from
		}
		from = next
	}
	return len(roads), from
}

// from returns where a road leads from a place, if it begins there.
func (r Road) from(place int) (to int, leads bool) {
	switch place {
	case r.A:
		return r.B, true
	case r.B:
		return r.A, true
	}
	return 0, false
}
