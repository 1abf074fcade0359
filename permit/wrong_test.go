package permit_test

import (
	"slices"

	"voussoir/api"
	"voussoir/exact"
	"voussoir/moving"
	"voussoir/permit"
)

// What is not valid, and the greatest that is.

// extremeInts returns integers that are outside of all ranges.
func extremeInts() []int {
	return []int{-1 << 63, 1<<63 - 1, -1 << 32, 1 << 32, -1 << 31, 1 << 31, -1}
}

// longBands returns so many bands: at 0, 1, 2 and so on, with values around 0.
func longBands(points int) []moving.Band {
	var l []moving.Band
	for i := range points {
		y := whole(i * (points - 1 - i) % 7)
		l = append(l, moving.Band{X: whole(i), Y: exact.Span{Low: y.Neg(), High: y}})
	}
	return l
}

// longLoads returns loads of so many axles.
func longLoads(axles int) []moving.Load {
	var v []moving.Load
	for i := range axles {
		v = append(v, moving.Load{Load: exact.Span{Low: whole(i % 2), High: whole(i % 5)}, Gap: whole(min(i%3, axles-1-i))})
	}
	return v
}

// longTable returns a table of so many impact factors.
func longTable(elements int) []moving.Impact {
	var table []moving.Impact
	for i := range elements {
		table = append(table, moving.Impact{From: 7 * i, Factor: whole(i % 4)})
	}
	return table
}

// greatest returns the greatest bridge: it bears what longLoads can do.
func greatest() permit.Bridge {
	b := permit.Bridge{Impact: longTable(api.MaxImpacts), Most: api.Weather{Wind: api.MaxGauge, Water: api.MaxGauge, Tremor: api.MaxGauge}}
	m := permit.Member{Bands: longBands(api.MaxPoints), Low: whole(-10000), High: whole(10000)}
	b.Members = slices.Repeat([]permit.Member{m}, api.MaxMembers)
	return b
}

// wrongBands returns bands that stand for lines that are not all valid.
func wrongBands() [][]moving.Band {
	list := [][]moving.Band{nil, {}, longBands(api.MaxPoints + 1), longBands(5 * api.MaxPoints)}
	for _, s := range []string{
		"0@0", "0@0 0@0", "1@0 0@0", "0@1 10@0", "0@0 10@1", "0@0 5@1 5@0", "0@0 5@1 5@2 10@0", "0@0 6@1 5@1 10@0", "3@0 5@1 10@0 2@0",
		"0@0..1 5@1 10@0", "0@1..0 5@1 10@0", "0@-1..0 5@1 10@0", "0@0..-1 5@1 10@0", "0@-1..1 5@1 10@0", "0@1..-1 5@1 10@0",
		"0@0 5@1 10@0..1", "0@0 5@1 10@1..0", "0@0 5@1 10@-1/9..0", "0@0 5@1 10@0..-1/9", "0@0 5@1 10@-1..1",
	} {
		list = append(list, bands(s))
	}
	return list
}

// wrongTables returns tables of impact factors that are not valid.
func wrongTables() [][]moving.Impact {
	list := [][]moving.Impact{nil, {}, longTable(api.MaxImpacts + 1)}
	for _, s := range []string{"1:1", "-1:1 0:1", "0:-1", "0:1 10:-1/9", "0:1 0:1", "0:1 10:1 10:2", "0:1 10:1 9:1", "0:1 301:1", "0:1 9223372036854775807:1"} {
		list = append(list, impacts(s))
	}
	return list
}

// wrongWeather returns weather of which a number is out of its range.
func wrongWeather() []api.Weather {
	var list []api.Weather
	for _, n := range append(extremeInts(), api.MaxGauge+1) {
		list = append(list, api.Weather{Wind: n}, api.Weather{Water: n}, api.Weather{Tremor: n}, api.Weather{Wind: n, Water: n, Tremor: n})
	}
	return list
}

// wrongBridges returns bridges that are not valid.
func wrongBridges() []permit.Bridge {
	var list []permit.Bridge
	for _, wrong := range wrongBands() {
		for i := range 3 {
			b := bridge(swing, beam, beam, beam)
			b.Members[i].Bands = wrong
			list = append(list, b)
		}
	}
	for _, wrong := range wrongTables() {
		b, none := bridge(swing, beam), bridge(swing)
		b.Impact, none.Impact = wrong, wrong
		list = append(list, b, none)
	}
	for _, wrong := range wrongWeather() {
		b := bridge(swing, beam)
		b.Most = wrong
		list = append(list, b)
	}
	for _, members := range []int{api.MaxMembers + 1, 10 * api.MaxMembers} {
		b := bridge(swing)
		b.Members = slices.Repeat([]permit.Member{member(beam)}, members)
		list = append(list, b)
	}
	return append(list, permit.Bridge{})
}

// wrongLoads returns loads that stand for vehicles that are not all valid.
func wrongLoads() [][]moving.Load {
	list := [][]moving.Load{nil, {}, longLoads(api.MaxAxles + 1), longLoads(10 * api.MaxAxles)}
	for _, s := range []string{
		"10+1", "10+-1", "-1+0", "-1/1000+0", "10+4 10+1", "10+-4 10+0", "-10+4 10+0", "10+4 -10+0",
		"-1..1+0", "1..-1+0", "10..-1/9+0", "-1/9..10+0", "-2..-1+0", "1..2+0 -1..0+0", "0..-1+0 1..2+0", "-1..1+4 10+0", "1..-1+4 10+0", "10+2 -1/9..0+4 10+0", "10+2 0..-1/9+4 10+0", "1..2+-1/9 1+0", "1..2+1/9",
	} {
		list = append(list, loads(s))
	}
	return list
}

// wrongSpeeds returns speeds that are not valid.
func wrongSpeeds() [][2]int {
	list := [][2]int{{1, 0}, {20, 19}, {300, 299}, {301, 300}, {0, 301}, {300, 301}, {301, 301}, {-1, -1}, {-1, 0}, {-1, 20}}
	for _, n := range extremeInts() {
		list = append(list, [2]int{n, n}, [2]int{n, 20})
		if n != -1<<63 {
			list = append(list, [2]int{0, n}, [2]int{300, n})
		}
	}
	return append(list, [2]int{1<<63 - 1, -1 << 63}, [2]int{-1 << 63, 1<<63 - 1})
}

// wrongTransports returns transports that are not valid.
func wrongTransports() []permit.Transport {
	var list []permit.Transport
	for _, wrong := range wrongLoads() {
		list = append(list, permit.Transport{Loads: wrong, To: 20})
	}
	for _, speeds := range wrongSpeeds() {
		list = append(list, transport(truck, speeds[0], speeds[1]))
	}
	return append(list, permit.Transport{})
}

// greatestNet returns the greatest network: a long row of places, twice over,
// and over as many bridges as there may be.
func greatestNet() permit.Net {
	n := permit.Net{Places: api.MaxTowns}
	for range api.MaxBridges {
		n.Bridges = append(n.Bridges, bridge(swing, beam))
	}
	for i := range api.MaxRoads {
		r := permit.Road{A: i % (api.MaxTowns - 1), B: i%(api.MaxTowns-1) + 1, Length: api.MaxLength}
		for over := range api.MaxOver {
			r.Bridges = append(r.Bridges, (i+over)%api.MaxBridges)
		}
		n.Roads = append(n.Roads, r)
	}
	return n
}

// wrongRoads returns roads that can not be in a network of three places and
// three bridges.
func wrongRoads() []permit.Road {
	var list []permit.Road
	for _, s := range []string{
		"0 0 5", "2 2 5", "0 3 5", "3 0 5", "3 3 5", "0 -1 5", "-1 0 5", "0 1 -1", "0 1 1000001",
		"0 1 5 over 3", "0 1 5 over -1", "0 1 5 over 0 1 3", "0 1 5 over -1 0", "0 1 5 over 0 0 0 0 0 0 0", "0 1 5 over 0 1 2 0 1 2 0 1 2",
	} {
		list = append(list, road(s))
	}
	for _, n := range extremeInts() {
		list = append(list, permit.Road{A: n, B: 1}, permit.Road{A: 1, B: n}, permit.Road{B: 1, Length: n}, permit.Road{B: 1, Bridges: []int{n}})
	}
	return list
}

// wrongNets returns networks that are not valid.
func wrongNets() []permit.Net {
	list := []permit.Net{{}}
	for _, places := range append(extremeInts(), 0, api.MaxTowns+1) {
		list = append(list, net(places), net(places, triangle()...))
	}
	for _, wrong := range wrongRoads() {
		for i := range 3 {
			n := net(3, triangle()...)
			n.Roads[i] = wrong
			list = append(list, n)
		}
	}
	for i, wrong := range wrongBridges() {
		n := net(3, triangle()...)
		n.Bridges[i%3] = wrong
		list = append(list, n)
	}
	roads, bridges, none := greatestNet(), greatestNet(), greatestNet()
	roads.Roads = append(roads.Roads, road("0 1 5"))
	bridges.Bridges = append(bridges.Bridges, bridge(swing))
	none.Bridges = none.Bridges[:api.MaxBridges-1]
	return append(list, roads, bridges, none)
}
