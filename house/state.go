package house

import (
	"slices"

	"voussoir/api"
	"voussoir/crack"
	"voussoir/exact"
	"voussoir/permit"
	"voussoir/weigh"
)

// state is what there is behind an order of the log, and the state before it, so
// that the past can be asked like the present. States share what did not change
// between them: an order makes new lists and a new watch, and leaves those of
// the state before as they are.
type state struct {
	before   *state // nil if the log is empty
	order    string // the last one of the log
	number   int    // its number, so that the log has as many orders
	places   []string
	roads    []permit.Road
	bridges  []bridge
	laws     [][]crack.Step
	elements []element
	watch    *crack.Watch // nil at first
	weather  api.Weather
	period   int
	passages int
	site     weigh.Site // of the last passage
	permits  []journey
}

// bridge is a bridge in its present version.
type bridge struct {
	permit.Bridge
	name    string
	version int
}

// element is an element of a bridge. The watch knows its size.
type element struct {
	name, bridge string
	law          int
	critical     exact.Q
}

// journey is what was permitted: a transport, and the roads of its route.
type journey struct {
	transport permit.Transport
	roads     []int
}

// at returns the state behind the order with a number of the log; 0 is before
// the first one.
func (s *state) at(number int) *state {
	for s.number > number {
		s = s.before
	}
	return s
}

// find returns the number of the bridge with a name, or -1 if there is none.
func (s *state) find(name string) int {
	return slices.IndexFunc(s.bridges, func(b bridge) bool { return b.name == name })
}

// over returns the bridges of a road.
func (s *state) over(r permit.Road) []bridge {
	var list []bridge
	for _, number := range r.Bridges {
		list = append(list, s.bridges[number])
	}
	return list
}

// isShut reports whether a bridge is closed by the weather, or because of one of
// its elements.
func (s *state) isShut(b bridge) bool {
	if open, _ := permit.Open(b.Bridge, s.weather); !open {
		return true
	}
	alarms := s.watch.Alarms()
	isAlarming := func(x element) bool { return x.bridge == b.name && slices.Contains(alarms, x.name) }
	return slices.ContainsFunc(s.elements, isAlarming)
}

// bears reports whether all members of a bridge are safe for a transport.
func (b bridge) bears(t permit.Transport) bool {
	unsafe, _ := permit.Bears(b.Bridge, t)
	return unsafe < 0
}

// newWatch gives the state a watch of its own, with the same elements and sizes,
// and returns it.
func (s *state) newWatch() *crack.Watch {
	watch, _ := crack.NewWatch(s.laws, exact.Q{})
	for _, x := range s.elements {
		size, _ := s.watch.Size(x.name)
		watch.Add(x.name, x.law, size, x.critical)
	}
	s.watch = watch
	return watch
}

// with returns a list with one more element, in memory of its own.
func with[T any](list []T, x T) []T { return append(slices.Clip(list), x) }

// changed returns a list with another element at a place, in memory of its own.
func changed[T any](list []T, at int, x T) []T {
	list = slices.Clone(list)
	list[at] = x
	return list
}
