package moving_test

import (
	"math/big"

	"voussoir/exact"
	"voussoir/moving"
)

// What the chapter says, computed with math/big, as directly as it is said.

// rat returns a number as one of math/big.
func rat(x exact.Q) *big.Rat {
	if n, ok := x.Int64(); ok { // most numbers are, and texts take long
		return big.NewRat(n, 1)
	}
	r, ok := new(big.Rat).SetString(x.Text())
	if !ok {
		panic("not a number: " + x.Text())
	}
	return r
}

// minus returns a difference.
func minus(x, y *big.Rat) *big.Rat { return new(big.Rat).Sub(x, y) }

// plus returns a sum.
func plus(x, y *big.Rat) *big.Rat { return new(big.Rat).Add(x, y) }

// times returns a product.
func times(x, y *big.Rat) *big.Rat { return new(big.Rat).Mul(x, y) }

// over returns a quotient.
func over(x, y *big.Rat) *big.Rat { return new(big.Rat).Quo(x, y) }

// ends are the least and the greatest of some numbers.
type ends struct{ low, high *big.Rat }

// zeroEnds returns the ends of 0 alone.
func zeroEnds() ends { return ends{new(big.Rat), new(big.Rat)} }

// with returns the ends of one number more.
func (s ends) with(x *big.Rat) ends {
	if s.low == nil || x.Cmp(s.low) < 0 {
		s.low = x
	}
	if s.high == nil || x.Cmp(s.high) > 0 {
		s.high = x
	}
	return s
}

// are reports whether a span has these ends, the lower one first.
func (s ends) are(span exact.Span) bool {
	return rat(span.Low).Cmp(s.low) == 0 && rat(span.High).Cmp(s.high) == 0
}

// text returns the ends as a text.
func (s ends) text() string { return s.low.RatString() + ".." + s.high.RatString() }

// endsOf returns the ends of a span.
func endsOf(s exact.Span) ends { return ends{}.with(rat(s.Low)).with(rat(s.High)) }

// valueOf returns the value of a line at x.
func valueOf(l []moving.Point, x *big.Rat) *big.Rat {
	for i, p := range l {
		to := rat(p.X)
		if x.Cmp(to) == 0 {
			return rat(p.Y)
		}
		if i == 0 || x.Cmp(to) > 0 || x.Cmp(rat(l[i-1].X)) < 0 {
			continue
		}
		from := rat(l[i-1].X)
		left, right := times(rat(l[i-1].Y), minus(to, x)), times(rat(p.Y), minus(x, from))
		return over(plus(left, right), minus(to, from))
	}
	return new(big.Rat)
}

// axlesAt returns where the axles of a vehicle are.
func axlesAt(v []moving.Axle, t *big.Rat) []*big.Rat {
	var list []*big.Rat
	for _, a := range v {
		list = append(list, t)
		t = minus(t, rat(a.Gap))
	}
	return list
}

// lengthOf returns the length of a vehicle.
func lengthOf(v []moving.Axle) *big.Rat {
	length := new(big.Rat)
	for _, a := range v {
		length = plus(length, rat(a.Gap))
	}
	return length
}

// effectOf returns the effect of a vehicle at t.
func effectOf(l []moving.Point, v []moving.Axle, t *big.Rat) *big.Rat {
	effect := new(big.Rat)
	for i, x := range axlesAt(v, t) {
		effect = plus(effect, times(rat(v[i].Load), valueOf(l, x)))
	}
	return effect
}

// stopsOf returns the stops of a vehicle on a line, in no order.
func stopsOf(l []moving.Point, v []moving.Axle) []*big.Rat {
	var list []*big.Rat
	for _, p := range l {
		for _, x := range axlesAt(v, new(big.Rat)) {
			list = append(list, minus(rat(p.X), x))
		}
	}
	return list
}

// extremesOf returns the least and the greatest effect at stops, and the
// smallest stops where they are.
func extremesOf(l []moving.Point, v []moving.Axle) (effects, stops ends) {
	for _, t := range stopsOf(l, v) {
		x := effectOf(l, v, t)
		if effects.low == nil || x.Cmp(effects.low) < 0 || x.Cmp(effects.low) == 0 && t.Cmp(stops.low) < 0 {
			effects.low, stops.low = x, t
		}
		if effects.high == nil || x.Cmp(effects.high) > 0 || x.Cmp(effects.high) == 0 && t.Cmp(stops.high) < 0 {
			effects.high, stops.high = x, t
		}
	}
	return effects, stops
}

// boundsOf returns the least and the greatest effect of all vehicles and lines
// whose numbers are ends of their spans. The effect is linear in each of these
// numbers alone, so that no number between the ends gives more.
func boundsOf(l []moving.Band, v []moving.Load) ends {
	var all ends
	for line := range linesAtEnds(l) {
		for vehicle := range vehiclesAtEnds(v) {
			effects, _ := extremesOf(line, vehicle)
			all = all.with(effects.low).with(effects.high)
		}
	}
	return all
}

// linesAtEnds yields the lines whose numbers are ends of the bands.
func linesAtEnds(l []moving.Band) func(func([]moving.Point) bool) {
	return func(yield func([]moving.Point) bool) {
		for set := range 1 << len(l) {
			line, again := make([]moving.Point, len(l)), false
			for i, b := range l {
				line[i] = moving.Point{X: b.X, Y: b.Y.Low}
				if set>>i&1 == 1 {
					line[i].Y = b.Y.High
					again = again || b.Y.Low.Cmp(b.Y.High) == 0
				}
			}
			if !again && !yield(line) {
				return
			}
		}
	}
}

// vehiclesAtEnds yields the vehicles whose numbers are ends of the loads.
func vehiclesAtEnds(v []moving.Load) func(func([]moving.Axle) bool) {
	return func(yield func([]moving.Axle) bool) {
		for set := range 1 << len(v) {
			vehicle, again := make([]moving.Axle, len(v)), false
			for i, load := range v {
				vehicle[i] = moving.Axle{Load: load.Load.Low, Gap: load.Gap}
				if set>>i&1 == 1 {
					vehicle[i].Load = load.Load.High
					again = again || load.Load.Low.Cmp(load.Load.High) == 0
				}
			}
			if !again && !yield(vehicle) {
				return
			}
		}
	}
}

// lanesOf returns the least and the greatest result of several lanes: of all
// choices of lanes that have a vehicle, with all ends of their spans.
func lanesOf(lanes []exact.Span, factors []exact.Q) ends {
	all := zeroEnds()
	for set := range 1 << len(lanes) {
		sums, count := zeroEnds(), 0
		for i, s := range lanes {
			if set>>i&1 == 1 {
				both := endsOf(s)
				sums = ends{plus(sums.low, both.low), plus(sums.high, both.high)}
				count++
			}
		}
		if count > 0 {
			factor := rat(factors[count-1])
			all = all.with(times(sums.low, factor)).with(times(sums.high, factor))
		}
	}
	return all
}

// queuesOf returns the least and the greatest sum of effects of queues of at most
// so many vehicles, each of them at an integer position. All lengths must be
// integers: then no other queues matter, as those vehicles of a queue that are
// not at an integer may all be moved a little to one side, and as much to the
// other side, without a bend on the way, and one of the two is no worse.
func queuesOf(l []moving.Point, v []moving.Axle, distance exact.Q, most int) ends {
	first, last := rat(l[0].X).Num().Int64(), rat(l[len(l)-1].X).Num().Int64()
	length := lengthOf(v).Num().Int64()
	apart := int(length + rat(distance).Num().Int64())
	effects := make([]*big.Rat, last+length-first+1)
	for i := range effects {
		effects[i] = effectOf(l, v, big.NewRat(first+int64(i), 1))
	}
	all := zeroEnds()
	var drive func(sum *big.Rat, front, left int)
	drive = func(sum *big.Rat, front, left int) {
		all = all.with(sum)
		for at := front; at >= 0 && left > 0; at-- {
			drive(plus(sum, effects[at]), at-apart, left-1)
		}
	}
	drive(new(big.Rat), len(effects)-1, most)
	return all
}
