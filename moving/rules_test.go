package moving_test

import (
	"testing"

	"voussoir/exact"
	"voussoir/moving"
)

// TestR4ArgumentsStay checks that no function changes its arguments, with lists
// that are in no order, and with exchanged ends.
func TestR4ArgumentsStay(t *testing.T) {
	l, v := line("-3@0 -1@2 4@-5 9@1 10@0"), vehicle("3+1 1+5 2+0")
	lines, vehicles := bands("-3@0..0 -1@2..1 4@-5..3 10@0..0"), loads("3..1+1 0..4+0")
	lanes, factors, table := spans("3..1 0..12 -1..-7"), nums("1 1/2 3"), impacts("0:3 10:1 20:2")
	before := rulesText(l, v, lines, vehicles, lanes, factors, table)
	moving.CheckLine(l)
	moving.CheckVehicle(v)
	moving.Value(l, num("1"))
	moving.Effect(l, v, num("1"))
	moving.Extremes(l, v)
	moving.Bounds(lines, vehicles)
	moving.Factors(table, 0, 30)
	moving.Lanes(lanes, factors)
	moving.Queue(l, v, num("1"), 3)
	moving.Mirror(l)
	moving.Turn(v)
	if after := rulesText(l, v, lines, vehicles, lanes, factors, table); after != before {
		t.Errorf("%s\nbecame\n%s", before, after)
	}
}

// rulesText returns arguments of all kinds as one text.
func rulesText(l []moving.Point, v []moving.Axle, lines []moving.Band, vehicles []moving.Load, lanes []exact.Span, factors []exact.Q, table []moving.Impact) string {
	s := lineText(l) + "\n" + vehicleText(v) + "\n" + bandsText(lines) + "\n" + loadsText(vehicles) + "\n"
	for _, x := range lanes {
		s += spanText(x) + " "
	}
	for _, x := range factors {
		s += x.Text() + " "
	}
	for _, x := range table {
		s += whole(x.From).Text() + ":" + x.Factor.Text() + " "
	}
	return s
}
