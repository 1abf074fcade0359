package weigh_test

import (
	"math/rand"

	"voussoir/api"
	"voussoir/exact"
	"voussoir/moving"
	"voussoir/weigh"
)

// someQ returns a number from low to high: an integer, a fraction, or now and
// then a very long one.
func someQ(r *rand.Rand, low, high int) exact.Q {
	x := whole(low + r.Intn(high-low+1))
	if x.Cmp(whole(high)) == 0 || r.Intn(3) > 0 {
		return x
	}
	if r.Intn(15) == 0 {
		long, _ := exact.Int(r.Int63()).Times(exact.Int(r.Int63())).Over(num("340282366920938463463374607431768211456"))
		return x.Plus(long)
	}
	return x.Plus(part(r.Intn(7), 7))
}

// part returns a fraction whose denominator is not 0.
func part(a, b int) exact.Q {
	x, _ := exact.Of(int64(a), int64(b))
	return x
}

// someLine returns a line of so many points at random.
func someLine(r *rand.Rand, points int) []moving.Point {
	x := someQ(r, -10, 0)
	var l []moving.Point
	for i := range points {
		p := moving.Point{X: x}
		if i > 0 && i < points-1 {
			p.Y = someQ(r, -1, 4)
		}
		l = append(l, p)
		x = x.Plus(someQ(r, 1, 6))
	}
	return l
}

// somePattern returns a pattern of so many axles at random.
func somePattern(r *rand.Rand, axles int) weigh.Pattern {
	p := weigh.Pattern{Light: someQ(r, 0, 3)}
	p.Heavy = p.Light.Plus(someQ(r, 4, 20))
	for range axles - 1 {
		p.Gaps = append(p.Gaps, someQ(r, 0, 5))
	}
	for rest := axles; rest > 0; {
		n := 1 + r.Intn(rest)
		p.Vehicles = append(p.Vehicles, n)
		rest -= n
	}
	return p
}

// someLoads returns loads of a pattern, each of them from Light to Heavy.
func someLoads(r *rand.Rand, p weigh.Pattern) []exact.Q {
	var loads []exact.Q
	for range len(p.Gaps) + 1 {
		loads = append(loads, p.Light.Plus(p.Heavy.Minus(p.Light).Times(part(r.Intn(9), 8))))
	}
	return loads
}

// someReadings returns readings of a train at random. At times they are exact,
// and wide otherwise; each has the effect of the train.
func someReadings(r *rand.Rand, l []moving.Point, p weigh.Pattern, loads []exact.Q, n int) []weigh.Reading {
	var list []weigh.Reading
	for range n {
		at := someQ(r, -10, 25)
		effect := effectNumber(l, p, loads, at)
		x := weigh.Reading{At: at, Low: effect, High: effect}
		if r.Intn(4) > 0 {
			x.Low, x.High = effect.Minus(someQ(r, 0, 3)), effect.Plus(someQ(r, 0, 3))
		}
		list = append(list, x)
	}
	return list
}

// effectNumber returns the effect of a train as a number.
func effectNumber(l []moving.Point, p weigh.Pattern, loads []exact.Q, at exact.Q) exact.Q {
	return num(effectOf(l, p, rats(loads), at).RatString())
}

// someLaw returns a law at random, under which trains of such patterns may be
// too heavy.
func someLaw(r *rand.Rand) weigh.Law {
	w := weigh.Law{Axle: someQ(r, 2, 16)}
	for i := range api.MaxTrain {
		w.Gross = append(w.Gross, someQ(r, 2, 3+8*i))
	}
	return w
}

// someScene returns a scene at random, of patterns of at most so many axles. The
// train that has passed is one of the patterns, but at times a reading is wrong.
func someScene(r *rand.Rand, axles int) scene {
	c := scene{w: someLaw(r), vehicle: r.Intn(3)}
	for range 1 + r.Intn(3) {
		c.l = append(c.l, somePattern(r, 1+r.Intn(axles)))
	}
	c.s.Line = someLine(r, 2+r.Intn(4))
	passed := c.l[r.Intn(len(c.l))]
	c.s.Readings = someReadings(r, c.s.Line, passed, someLoads(r, passed), r.Intn(4))
	if len(c.s.Readings) > 0 && r.Intn(4) == 0 {
		wrong := &c.s.Readings[r.Intn(len(c.s.Readings))]
		by := someQ(r, 1, 9)
		wrong.Low, wrong.High = wrong.Low.Plus(by), wrong.High.Plus(by)
	}
	return c
}
