package permit_test

import (
	"math/rand"

	"voussoir/api"
	"voussoir/exact"
	"voussoir/moving"
	"voussoir/permit"
)

// someQ returns a number from low to high: an integer, a fraction, or now and
// then a very long one.
func someQ(r *rand.Rand, low, high int) exact.Q {
	x := whole(low + r.Intn(high-low+1))
	if x.Cmp(whole(high)) == 0 || r.Intn(3) > 0 {
		return x
	}
	if r.Intn(15) == 0 {
		long, _ := exact.Int(r.Int63()).Times(exact.Int(r.Int63())).Over(num("340282366920938463463374607431768211456"))
		return x.Plus(long)
	}
	return x.Plus(part(r.Intn(7), 7))
}

// someSpan returns a span at random: often one number, and otherwise at times
// with exchanged ends.
func someSpan(r *rand.Rand, low, high int) exact.Span {
	x := someQ(r, low, high)
	if r.Intn(2) == 0 {
		return exact.Span{Low: x, High: x}
	}
	return exact.Span{Low: x, High: someQ(r, low, high)}
}

// between returns a number of a span: an end, or one between them.
func between(r *rand.Rand, s exact.Span) exact.Q {
	return s.Low.Plus(s.High.Minus(s.Low).Times(part(r.Intn(5), 4)))
}

// someBands returns so many bands at random.
func someBands(r *rand.Rand, points int) []moving.Band {
	x := someQ(r, -20, 20)
	var l []moving.Band
	for i := range points {
		b := moving.Band{X: x}
		if i > 0 && i < points-1 && r.Intn(6) > 0 {
			b.Y = someSpan(r, -3, 4)
		}
		l = append(l, b)
		x = x.Plus(someQ(r, 0, 5)).Plus(part(1, 1+r.Intn(3)))
	}
	return l
}

// someLoads returns so many loads at random. Some of them and some of the gaps
// are 0.
func someLoads(r *rand.Rand, axles int) []moving.Load {
	var v []moving.Load
	for i := range axles {
		l := moving.Load{Load: someSpan(r, 0, 9)}
		if i < axles-1 {
			l.Gap = someQ(r, 0, 6)
		}
		v = append(v, l)
	}
	return v
}

// someTable returns impact factors at random, of which some are 0.
func someTable(r *rand.Rand) []moving.Impact {
	table := []moving.Impact{{Factor: someQ(r, 0, 2)}}
	for from := 1 + r.Intn(60); from <= api.MaxSpeed && len(table) < 6; from += 1 + r.Intn(120) {
		table = append(table, moving.Impact{From: from, Factor: someQ(r, 0, 3)})
	}
	return table
}

// someTransport returns a transport at random.
func someTransport(r *rand.Rand, axles int) permit.Transport {
	from := r.Intn(api.MaxSpeed + 1)
	return permit.Transport{Loads: someLoads(r, axles), From: from, To: from + r.Intn(api.MaxSpeed+1-from)}
}

// someBridge returns a bridge at random, whose members bear a transport, or only
// just, or not quite.
func someBridge(r *rand.Rand, members int, t permit.Transport) permit.Bridge {
	b := permit.Bridge{Impact: someTable(r), Most: someWeather(r, 20)}
	for range members {
		m := permit.Member{Bands: someBands(r, 2+r.Intn(4)), Dead: someSpan(r, -5, 5)}
		sums := sumsOf(m, b.Impact, t)
		m.Low, m.High = sums.Low.Minus(someRoom(r)), sums.High.Plus(someRoom(r))
		b.Members = append(b.Members, m)
	}
	return b
}

// someRoom returns a number that is rarely below 0.
func someRoom(r *rand.Rand) exact.Q {
	switch r.Intn(8) {
	case 0:
		return part(-1, 1+r.Intn(9))
	case 1, 2:
		return exact.Q{}
	}
	return someQ(r, 0, 9)
}

// someWeather returns weather with numbers that are at most so great.
func someWeather(r *rand.Rand, most int) api.Weather {
	return api.Weather{Wind: r.Intn(most + 1), Water: r.Intn(most + 1), Tremor: r.Intn(most + 1)}
}

// someRoads returns so many roads at random, over so many bridges. Many of their
// lengths are equal, and some are 0.
func someRoads(r *rand.Rand, places, roads, bridges int) []permit.Road {
	var list []permit.Road
	for range roads {
		a := r.Intn(places)
		road := permit.Road{A: a, B: (a + 1 + r.Intn(places-1)) % places, Length: r.Intn(4)}
		for range r.Intn(3) {
			road.Bridges = append(road.Bridges, r.Intn(bridges))
		}
		list = append(list, road)
	}
	return list
}

// someNet returns a network at random with few places and bridges.
func someNet(r *rand.Rand, t permit.Transport) permit.Net {
	n := permit.Net{Places: 2 + r.Intn(5)}
	for range 1 + r.Intn(4) {
		n.Bridges = append(n.Bridges, someBridge(r, r.Intn(3), t))
	}
	n.Roads = someRoads(r, n.Places, r.Intn(9), len(n.Bridges))
	return n
}
