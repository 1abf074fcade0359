package house

import (
	"slices"

	"voussoir/api"
	"voussoir/exact"
	"voussoir/moving"
	"voussoir/permit"
)

// ask asks for a permit.
func (s *state) ask(w words) (string, api.Errno) {
	from, to := slices.Index(s.places, w.names["A"]), slices.Index(s.places, w.names["B"])
	if from < 0 || to < 0 {
		return "", api.ErrNone
	}
	j := journey{transport: w.transport()}
	route, e := permit.Route(s.net(), j.transport, s.weather, from, to)
	switch {
	case e != api.OK:
		return "", e
	case len(s.permits) >= api.MaxPermits:
		return "", api.ErrFull
	}
	j.roads = route.Roads
	s.permits = with(s.permits, j)
	return inWords(append([]int{len(s.permits)}, j.roads...)...), api.OK
}

// drive asks whether a permit still holds.
func (s *state) drive(w words) (string, api.Errno) {
	number := w.wholes["N"]
	if number < 1 || number > len(s.permits) {
		return "", api.ErrNone
	}
	j := s.permits[number-1]
	stops := func(b bridge) bool { return s.isShut(b) || !b.bears(j.transport) }
	for _, road := range j.roads {
		crossed := s.over(s.roads[road])
		if at := slices.IndexFunc(crossed, stops); at >= 0 {
			return "stop " + crossed[at].name, api.OK
		}
	}
	return "go", api.OK
}

// net returns the network in its present state. A road over shut bridges goes
// over one bridge more, which nothing may cross: so it is not usable.
func (s *state) net() permit.Net {
	n := permit.Net{Places: len(s.places)}
	for _, b := range s.bridges {
		n.Bridges = append(n.Bridges, b.Bridge)
	}
	n.Bridges = append(n.Bridges, broken())
	for _, r := range s.roads {
		if slices.ContainsFunc(s.over(r), s.isShut) {
			r.Bridges = with(r.Bridges, len(s.bridges))
		}
		n.Roads = append(n.Roads, r)
	}
	return n
}

// broken returns a bridge with a member that bears nothing.
func broken() permit.Bridge {
	m := permit.Member{Bands: []moving.Band{{}, {X: exact.Int(1)}}, Low: exact.Int(1)} // above its High of 0
	return permit.Bridge{Members: []permit.Member{m}, Impact: []moving.Impact{{}}}
}
