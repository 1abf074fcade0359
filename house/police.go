package house

import (
	"voussoir/api"
	"voussoir/weigh"
)

// beginPassage begins a passage, without readings.
func (s *state) beginPassage(w words) (string, api.Errno) {
	s.site = weigh.Site{Line: w.line}
	switch {
	case weigh.CheckSite(s.site) != api.OK:
		return "", api.ErrArg
	case s.passages >= api.MaxPassages:
		return "", api.ErrFull
	}
	s.passages++
	return done, api.OK
}

// addReading adds a reading to the passage.
func (s *state) addReading(w words) (string, api.Errno) {
	if s.passages == 0 {
		return "", api.ErrState
	}
	r := weigh.Reading{At: w.numbers["AT"], Low: w.numbers["LOW"], High: w.numbers["HIGH"]}
	s.site.Readings = with(s.site.Readings, r)
	return done, weigh.CheckSite(s.site)
}

// accuse asks whether a vehicle was too heavy, whatever passed.
func (s *state) accuse(w words) (string, api.Errno) {
	if s.passages == 0 {
		return "", api.ErrState
	}
	law := weigh.Law{Axle: w.numbers["AXLE"], Gross: w.gross}
	accused, e := weigh.Accused(s.site, w.patterns, law, w.wholes["VEHICLE"])
	if accused {
		return "accused", e
	}
	return "not accused", e
}
