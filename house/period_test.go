package house

import (
	"testing"

	"voussoir/api"
)

// TestP12_5LastPeriod begins in the last periods, as no log is long enough to
// get there.
func TestP12_5LastPeriod(t *testing.T) {
	s := state{period: api.MaxPeriods - 1}
	if text, e := s.tick(words{}); text != "ok" || e != api.OK || s.period != api.MaxPeriods {
		t.Error(text, e, s.period)
	}
	if _, e := s.tick(words{}); e != api.ErrFull {
		t.Error(e)
	}
}
