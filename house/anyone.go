package house

import (
	"strconv"

	"voussoir/api"
	"voussoir/permit"
)

// describe tells the version of a bridge, how many members it has, and whether
// it is shut.
func (s *state) describe(w words) (string, api.Errno) {
	at := s.find(w.names["NAME"])
	if at < 0 {
		return "", api.ErrNone
	}
	b := s.bridges[at]
	text := inWords(b.version, len(b.Members))
	if s.isShut(b) {
		return text + " shut", api.OK
	}
	return text + " open", api.OK
}

// rate tells by how much the loads of a transport may be multiplied on a bridge.
func (s *state) rate(w words) (string, api.Errno) {
	at := s.find(w.names["NAME"])
	if at < 0 {
		return "", api.ErrNone
	}
	factor, limited, e := permit.Rate(s.bridges[at].Bridge, w.transport())
	if !limited {
		return "unlimited", e
	}
	return factor.Text(), e
}

// post tells the greatest speed of loads on a bridge.
func (s *state) post(w words) (string, api.Errno) {
	at := s.find(w.names["NAME"])
	if at < 0 {
		return "", api.ErrNone
	}
	speed, e := permit.Post(s.bridges[at].Bridge, w.loads)
	return strconv.Itoa(speed), e
}

// due tells which elements are not among the alarms, and their deadlines.
func (s *state) due(words) (string, api.Errno) {
	var parts []string
	for _, d := range s.watch.Due() {
		parts = append(parts, d.Name+" "+strconv.Itoa(d.Deadline))
	}
	return inParts(parts), api.OK
}

// alarms tells which elements are among the alarms.
func (s *state) alarms(words) (string, api.Errno) { return inParts(s.watch.Alarms()), api.OK }

// count tells how much there is of each kind.
func (s *state) count(words) (string, api.Errno) {
	return inWords(len(s.places), len(s.roads), len(s.bridges), len(s.elements), len(s.permits), s.period, s.number), api.OK
}

// recall tells an order of the log, and the period in which it was given.
func (s *state) recall(w words) (string, api.Errno) {
	number := w.wholes["N"]
	if number < 1 || number > s.number {
		return "", api.ErrNone
	}
	past := s.at(number)
	return strconv.Itoa(past.before.period) + " " + past.order, api.OK
}

// askPast answers a question as it would have been answered earlier.
func (s *state) askPast(w words) (string, api.Errno) {
	number := w.wholes["N"]
	if number > s.number {
		return "", api.ErrRange
	}
	return w.question(s.at(number))
}
