package damage_test

import (
	"math/big"
	"math/rand"
	"slices"

	"voussoir/api"
	"voussoir/damage"
	"voussoir/exact"
	"voussoir/truss"
)

// part returns a fraction whose denominator is not 0.
func part(a, b int) exact.Q {
	x, _ := exact.Of(int64(a), int64(b))
	return x
}

// someQ returns a number from low to high: an integer, a fraction, or now and
// then a very long one.
func someQ(r *rand.Rand, low, high int) exact.Q {
	x := whole(low + r.Intn(high-low+1))
	if x.Cmp(whole(high)) == 0 || r.Intn(3) > 0 {
		return x
	}
	if r.Intn(15) == 0 {
		long, _ := exact.Int(r.Int63()).Times(exact.Int(r.Int63())).Over(num("340282366920938463463374607431768211456"))
		return x.Plus(long)
	}
	return x.Plus(part(r.Intn(7), 7))
}

// someIn returns a number of a span, often one of its ends.
func someIn(r *rand.Rand, s exact.Span) exact.Q {
	return s.Low.Plus(s.High.Minus(s.Low).Times(part(r.Intn(5), 4)))
}

// someTruss returns a truss at random with so many bars, that can not move, and
// of which no bar is spare. Its joints are within a reach.
func someTruss(r *rand.Rand, bars, reach, stiff int) api.Truss {
	for {
		s := api.Truss{Joints: someJoints(r, bars, reach)}
		for range bars {
			a := r.Intn(len(s.Joints))
			b := (a + 1 + r.Intn(len(s.Joints)-1)) % len(s.Joints)
			s.Bars = append(s.Bars, bar(a, b, 1+r.Intn(stiff)))
		}
		if spare, loose, e := truss.Degrees(s); e == api.OK && spare == 0 && loose == 0 {
			return s
		}
	}
}

// someJoints returns joints at random, at least two, of which so many directions
// are free. Some of them may be at one place.
func someJoints(r *rand.Rand, free, reach int) []api.Joint {
	place := func() int { return r.Intn(2*reach+1) - reach }
	for {
		list := []api.Joint{joint(place(), place(), "xy")}
		for range 1 + (free+r.Intn(free+2))/2 {
			list = append(list, joint(place(), place(), []string{"", "", "", "x", "y", "xy"}[r.Intn(6)]))
		}
		r.Shuffle(len(list), func(i, j int) { list[i], list[j] = list[j], list[i] })
		if len(list) <= api.MaxJoints && len(freeOf(api.Truss{Joints: list})) == free {
			return list
		}
	}
}

// somePushes returns pushes at random for a truss.
func somePushes(r *rand.Rand, s api.Truss, most int) []api.Push {
	list := make([]api.Push, len(s.Joints))
	for i := range list {
		if r.Intn(4) > 0 {
			list[i] = api.Push{X: r.Intn(2*most+1) - most, Y: r.Intn(2*most+1) - most}
		}
	}
	return list
}

// someSpan returns a span around 0 at random: at times it is exact, or its ends
// are exchanged.
func someSpan(r *rand.Rand, most int) exact.Span {
	low := someQ(r, -most, most)
	switch r.Intn(4) {
	case 0:
		return exact.Span{Low: low, High: low}
	case 1:
		return exact.Span{Low: low, High: low.Minus(someQ(r, 0, most))}
	}
	return exact.Span{Low: low, High: low.Plus(someQ(r, 0, most))}
}

// someSensor returns a sensor at random for a truss.
func someSensor(r *rand.Rand, s api.Truss) damage.Sensor {
	x := damage.Sensor{At: r.Intn(2 * len(s.Joints)), Offset: someSpan(r, 3), Drift: someSpan(r, 1), Warm: someSpan(r, 1)}
	if len(s.Bars) > 0 && r.Intn(3) == 0 {
		x.Strain, x.At = true, r.Intn(len(s.Bars))
	}
	if free := freeOf(s); !x.Strain && len(free) > 0 && r.Intn(8) > 0 {
		x.At = free[r.Intn(len(free))]
	}
	if r.Intn(3) > 0 {
		x.Error = someQ(r, 0, 2)
	}
	return x
}

// size is how much of everything a watch has.
type size struct{ bars, sensors, cases, readings int }

// someSize returns a size at random.
func someSize(r *rand.Rand, bars int) size {
	return size{r.Intn(bars + 1), 1 + r.Intn(3), 1 + r.Intn(3), r.Intn(5)}
}

// structure is a watch, and what is so in truth: a number for each unknown.
type structure struct {
	damage.Watch
	truth []*big.Rat
}

// someStructure returns a structure at random of a size, in which the readings
// are what its sensors show.
func someStructure(r *rand.Rand, n size) structure {
	var x structure
	x.Truss = someTruss(r, n.bars, 4, 5)
	for range n.bars {
		x.Worst = append(x.Worst, 1+r.Intn(8))
	}
	for range n.cases {
		x.Cases = append(x.Cases, somePushes(r, x.Truss, 20))
	}
	for range n.sensors {
		x.Sensors = append(x.Sensors, someSensor(r, x.Truss))
	}
	for _, s := range spansOf(x.Watch) {
		x.truth = append(x.truth, rat(someIn(r, s)))
	}
	for range n.readings {
		x.Readings = append(x.Readings, x.someReading(r))
	}
	return x
}

// someReading returns a reading at random of a structure: the sensor is wrong by
// at most its error.
func (x structure) someReading(r *rand.Rand) damage.Reading {
	y := damage.Reading{Sensor: r.Intn(len(x.Sensors)), Case: r.Intn(len(x.Cases)), Day: r.Intn(4), Degrees: r.Intn(7) - 3}
	off := x.Sensors[y.Sensor].Error.Times(part(r.Intn(5)-2, 2))
	y.Value = fromRat(shownBy(x.Watch, y, x.truth)).Plus(off)
	return y
}

// someWatch returns the watch of a structure at random. At times readings are
// wrong.
func someWatch(r *rand.Rand, n size) damage.Watch {
	w := someStructure(r, n).Watch
	for i := range w.Readings {
		if r.Intn(4) == 0 {
			w.Readings[i].Value = w.Readings[i].Value.Plus(someQ(r, -4, 5))
		}
	}
	return w
}

// someLimit returns a limit at random: often one of the ends of a span.
func someLimit(r *rand.Rand, s exact.Span) exact.Q {
	switch r.Intn(4) {
	case 0:
		return s.Low
	case 1:
		return s.High
	}
	return someQ(r, 0, 8)
}

// greatWatch returns a watch of the greatest size, with the greatest numbers
// and, if they are to be long, with different fractions everywhere.
func greatWatch(r *rand.Rand, long bool) structure {
	x := structure{Watch: damage.Watch{Truss: someTruss(r, api.MaxSensed, api.MaxPlace, api.MaxStiff)}}
	off := func(scale int) exact.Q {
		if long {
			return part(r.Int(), r.Int()|1).Times(part(1, scale))
		}
		return part(1+r.Intn(9), 10*scale)
	}
	for range api.MaxSensed {
		x.Worst = append(x.Worst, api.MaxWorst)
		x.truth = append(x.truth, rat(part(1000+r.Intn(9000), 1000)))
	}
	for range api.MaxCases {
		x.Cases = append(x.Cases, somePushes(r, x.Truss, api.MaxPush))
	}
	free := freeOf(x.Truss)
	for i := range api.MaxSensors {
		s := damage.Sensor{At: free[r.Intn(len(free))], Error: off(100), Offset: exact.Span{High: off(10)}, Drift: exact.Span{Low: off(1000)}, Warm: exact.Span{High: off(1000)}}
		if i == 0 {
			s.Strain, s.At = true, r.Intn(api.MaxSensed)
		}
		x.Sensors = append(x.Sensors, s)
		x.truth = append(x.truth, rat(s.Offset.High), rat(s.Drift.Low), rat(s.Warm.High))
	}
	for i := range api.MaxReadings {
		y := x.someReading(r)
		if i == 0 {
			y.Day, y.Degrees = api.MaxDay, -api.MaxDegrees
			y.Value = fromRat(shownBy(x.Watch, y, x.truth))
		}
		x.Readings = append(x.Readings, y)
	}
	return x
}

// narrower returns a structure with readings more, which it also shows.
func (x structure) narrower(r *rand.Rand) structure {
	x.Readings = slices.Clone(x.Readings)
	for range 1 + r.Intn(3) {
		x.Readings = slices.Insert(x.Readings, r.Intn(len(x.Readings)+1), x.someReading(r))
	}
	return x
}
