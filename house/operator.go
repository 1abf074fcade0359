package house

import "voussoir/api"

// tellWeather tells the weather.
func (s *state) tellWeather(w words) (string, api.Errno) {
	s.weather = w.weather()
	if max(s.weather.Wind, s.weather.Water, s.weather.Tremor) > api.MaxGauge {
		return "", api.ErrArg
	}
	return done, api.OK
}

// tick begins the next period.
func (s *state) tick(words) (string, api.Errno) {
	if s.period >= api.MaxPeriods {
		return "", api.ErrFull
	}
	s.period++
	s.newWatch().Tick()
	return done, api.OK
}

// inspect tells what inspectors found at an element.
func (s *state) inspect(w words) (string, api.Errno) {
	a, e := s.newWatch().Inspect(w.names["NAME"], w.findings)
	text := spanText(a.Size)
	if a.Doubt {
		text += " doubt"
	}
	return text, e
}
