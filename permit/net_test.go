package permit_test

import (
	"math/rand"
	"slices"
	"testing"

	"voussoir/api"
	"voussoir/permit"
)

func TestP8_6Valid(t *testing.T) {
	for _, n := range []permit.Net{
		{Places: 1}, {Places: api.MaxTowns}, {Places: 1, Bridges: []permit.Bridge{bridge(swing)}}, net(1), net(3, triangle()...), greatestNet(),
		net(2, "0 1 0", "1 0 1000000", "0 1 5 over 2 2 1 1 0 0"), net(20, "19 0 0 over 2", "0 19 1"),
	} {
		if e := permit.CheckNet(n); e != api.OK {
			t.Errorf("%s: error %d", netText(n), e)
		}
	}
}

func TestP8_6NetErrors(t *testing.T) {
	for _, n := range wrongNets() {
		if e := permit.CheckNet(n); e != api.ErrArg {
			t.Errorf("%s: error %d", netText(n), e)
		}
	}
}

func TestP8_6Examples(t *testing.T) {
	n := net(3, triangle()...)
	checkUsable(t, n, slow(), calm(), "111")
	checkUsable(t, n, slow(), weather("10 20 5"), "111")
	checkUsable(t, n, slow(), weather("11 0 0"), "011")
	checkUsable(t, n, slow(), weather("0 21 0"), "011")
	checkUsable(t, n, slow(), weather("0 0 6"), "011")
	checkUsable(t, n, slow(), weather("1000000 1000000 1000000"), "011")
	checkUsable(t, n, transport("20+4 20+0", 0, 20), calm(), "011")
	checkUsable(t, n, transport(truck, 0, 300), calm(), "111")
	checkUsable(t, n, transport("15+4 15+0", 29, 30), calm(), "011")
	checkUsable(t, net(1), slow(), calm(), "")
	kinds := net(2, "0 1 1", "0 1 1 over 0", "0 1 1 over 1", "0 1 1 over 2", "1 0 1 over 0 0", "1 0 1 over 1 1", "1 0 1 over 2 2", "1 0 1 over 0 1", "1 0 1 over 1 0", "1 0 1 over 0 2", "1 0 1 over 2 0", "0 1 1 over 0 0 0 0 0 1", "0 1 1 over 0 2 0 2 0 2")
	checkUsable(t, kinds, slow(), calm(), "1101101001101")
	checkUsable(t, kinds, slow(), breeze(), "1100100000000")
	checkUsable(t, kinds, slow(), weather("0 21 0"), "1000000000000")
	checkUsable(t, greatestNet(), slow(), calm(), "1111111111111111111111111111111111111111")
	closed := greatestNet()
	closed.Bridges[19].Most = api.Weather{}
	checkUsable(t, closed, slow(), breeze(), "1111111111111100000011111111111111000000")
}

func TestP8_6Many(t *testing.T) {
	r := rand.New(rand.NewSource(86))
	count := map[bool]int{}
	for range 60 {
		v := someTransport(r, 1+r.Intn(2))
		n, w := someNet(r, v), someWeather(r, 3)
		want := usableOf(n, v, w)
		for _, usable := range want {
			count[usable]++
		}
		checkUsable(t, n, v, w, boolText(want))
	}
	if count[true] < 50 || count[false] < 50 {
		t.Error("too few of a kind", count)
	}
}

func TestP8_6Errors(t *testing.T) {
	wrongTravels(func(n permit.Net, v permit.Transport, w api.Weather, want api.Errno) {
		if list, e := permit.Usable(n, v, w); list != nil || e != want {
			t.Errorf("%s\nby %s in %s: %v, error %d, not %d", netText(n), transportText(v), weatherText(w), list, e, want)
		}
	})
}

// wrongTravels calls a function with all that Usable refuses.
func wrongTravels(call func(n permit.Net, v permit.Transport, w api.Weather, want api.Errno)) {
	good, storm := net(3, triangle()...), api.Weather{Wind: -1}
	for _, n := range wrongNets() {
		call(n, slow(), calm(), api.ErrArg)
		call(n, slow(), storm, api.ErrArg)
	}
	for _, v := range wrongTransports() {
		call(good, v, calm(), api.ErrArg)
		call(good, v, storm, api.ErrArg)
		call(net(1), v, calm(), api.ErrArg)
	}
	for _, w := range wrongWeather() {
		call(good, slow(), w, api.ErrRange)
		call(net(1), slow(), w, api.ErrRange)
	}
}

func TestP8_7Examples(t *testing.T) {
	n := net(3, triangle()...)
	checkRoute(t, n, slow(), calm(), 0, 1, "0: 5, reached ")
	checkRoute(t, n, slow(), calm(), 1, 0, "0: 5, reached ")
	checkRoute(t, n, transport("20+4 20+0", 0, 20), calm(), 0, 1, "1 2: 8, reached ")
	checkRoute(t, n, slow(), weather("11 0 0"), 0, 1, "1 2: 8, reached ")
	checkRoute(t, n, slow(), weather("11 0 0"), 1, 0, "2 1: 8, reached ")
	checkRoute(t, n, slow(), weather("11 0 0"), 2, 0, "1: 4, reached ")
	for place := range 3 {
		checkRoute(t, n, slow(), calm(), place, place, ": 0, reached ")
	}
	checkRoute(t, net(1), slow(), calm(), 0, 0, ": 0, reached ")
	checkRoute(t, net(2, "0 1 0 over 1"), slow(), calm(), 1, 1, ": 0, reached ")
	checkRoute(t, greatestNet(), slow(), calm(), 0, 19, "0 1 2 3 4 5 6 7 8 9 10 11 12 13 14 15 16 17 18: 19000000, reached ")
	checkRoute(t, greatestNet(), slow(), calm(), 19, 0, "18 17 16 15 14 13 12 11 10 9 8 7 6 5 4 3 2 1 0: 19000000, reached ")
}

// TestP8_7WhichOne has routes of equal lengths, with fewer roads or with smaller
// numbers.
func TestP8_7WhichOne(t *testing.T) {
	for _, c := range []struct {
		roads []string
		want  string
	}{
		{[]string{"0 1 3", "0 3 3"}, "1: 3, reached "},
		{[]string{"0 3 3", "0 3 2"}, "1: 2, reached "},
		{[]string{"0 3 3", "3 0 3", "0 3 3"}, "0: 3, reached "},
		{[]string{"0 3 3 over 1", "3 0 3", "0 3 3"}, "1: 3, reached "},
		{[]string{"0 1 1", "1 3 2", "0 3 3"}, "2: 3, reached "}, // fewer roads
		{[]string{"3 1 2", "1 0 1", "0 3 3"}, "2: 3, reached "},
		{[]string{"3 1 1", "1 2 1", "2 0 0", "1 0 1"}, "3 0: 2, reached "},
		{[]string{"0 1 1", "1 3 1", "0 3 3"}, "0 1: 2, reached "},
		{[]string{"0 1 0", "1 3 0", "0 3 1"}, "0 1: 0, reached "},
		{[]string{"0 1 0", "1 2 0", "2 3 0", "0 3 0"}, "3: 0, reached "},
		{[]string{"2 3 1", "0 1 1", "0 2 1", "1 3 1"}, "1 3: 2, reached "}, // the smallest first road
		{[]string{"3 2 1", "1 0 1", "2 0 1", "3 1 1"}, "1 3: 2, reached "},
		{[]string{"0 1 1", "0 2 1", "2 3 1", "1 3 1"}, "0 3: 2, reached "}, // and not the smallest last one
		{[]string{"0 1 1", "0 2 1", "1 3 1", "1 3 1"}, "0 2: 2, reached "},
		{[]string{"0 1 1", "0 2 1", "1 3 2", "2 3 1"}, "1 3: 2, reached "},
		{[]string{"0 1 0", "1 2 0", "0 2 1", "2 3 1"}, "0 1 3: 1, reached "},
		{[]string{"0 1 2", "1 2 0", "0 2 2", "2 3 1"}, "2 3: 3, reached "},
		{[]string{"0 1 1", "1 2 1", "2 3 1", "0 2 2", "1 3 2"}, "0 4: 3, reached "},
		{[]string{"0 2 2", "1 2 1", "2 3 1", "0 1 1", "1 3 2"}, "0 2: 3, reached "},
		{[]string{"0 1 1 over 2", "1 3 1", "0 2 5", "2 3 5 over 0"}, "0 1: 2, reached "},
		{[]string{"0 1 1 over 1", "1 3 1", "0 2 5", "2 3 5 over 0"}, "2 3: 10, reached "},
	} {
		checkRoute(t, net(4, c.roads...), slow(), calm(), 0, 3, c.want)
	}
}

func TestP8_7NoWay(t *testing.T) {
	for _, c := range []struct {
		roads    []string
		from, to int
		want     string
	}{
		{nil, 0, 1, ": 0, reached 1000"}, {nil, 3, 0, ": 0, reached 0001"},
		{[]string{"0 1 1", "2 3 1"}, 0, 3, ": 0, reached 1100"}, {[]string{"0 1 1", "2 3 1"}, 3, 0, ": 0, reached 0011"}, {[]string{"0 1 1", "2 3 1"}, 1, 2, ": 0, reached 1100"},
		{[]string{"0 1 1", "1 2 1", "2 3 1 over 1"}, 0, 3, ": 0, reached 1110"}, {[]string{"2 1 1", "1 0 1", "2 3 1 over 1"}, 0, 3, ": 0, reached 1110"}, {[]string{"2 1 1", "1 0 1", "2 3 1 over 1"}, 3, 0, ": 0, reached 0001"},
		{[]string{"0 1 1 over 0 1", "1 2 1", "2 3 1"}, 0, 3, ": 0, reached 1000"}, {[]string{"0 1 1 over 0 1", "1 2 1", "2 3 1"}, 3, 0, ": 0, reached 0111"},
	} {
		checkRoute(t, net(4, c.roads...), slow(), calm(), c.from, c.to, c.want)
	}
	closed := greatestNet()
	closed.Bridges[10].Most = api.Weather{}
	checkRoute(t, closed, slow(), calm(), 0, 19, "0 1 2 3 4 5 6 7 8 9 10 11 12 13 14 15 16 17 18: 19000000, reached ")
	checkRoute(t, closed, slow(), breeze(), 0, 19, ": 0, reached 11111110000000000000")
	checkRoute(t, closed, slow(), breeze(), 19, 0, ": 0, reached 00000000000111111111")
}

func TestP8_7Many(t *testing.T) {
	r := rand.New(rand.NewSource(87))
	count := map[bool]int{}
	for range 1500 {
		n := net(2 + r.Intn(5))
		n.Roads = someRoads(r, n.Places, 1+r.Intn(14), len(n.Bridges))
		from, to, w := r.Intn(n.Places), r.Intn(n.Places), someWeather(r, 1)
		usable := usableOf(n, slow(), w)
		routes := routesOf(n, usable, from, to)
		count[len(routes) > 0]++
		want := permit.Permit{Reached: reachedOf(n, usable, from)}
		if len(routes) > 0 {
			best := bestOf(n, routes)
			want = permit.Permit{Roads: best, Length: lengthOf(n, best)}
		}
		checkRoute(t, n, slow(), w, from, to, permitText(want))
	}
	if count[true] < 50 || count[false] < 50 {
		t.Error("too few of a kind", count)
	}
}

// TestP8_7Great looks for routes in networks of as many places and roads as
// there may be, over no bridges: none is shorter, and no road can be left out.
func TestP8_7Great(t *testing.T) {
	r := rand.New(rand.NewSource(871))
	count := map[bool]int{}
	for range 100 {
		n := net(api.MaxTowns)
		for _, road := range someRoads(r, api.MaxTowns, api.MaxRoads, 1) {
			n.Roads = append(n.Roads, permit.Road{A: road.A, B: road.B, Length: road.Length*r.Intn(3) + 1})
		}
		from, to := r.Intn(n.Places), r.Intn(n.Places)
		usable := slices.Repeat([]bool{true}, api.MaxRoads)
		p, e := permit.Route(n, slow(), calm(), from, to)
		count[e == api.OK]++
		if e != api.OK {
			if want := reachedOf(n, usable, from); want[to] || e != api.ErrNoWay || !slices.Equal(p.Reached, want) || len(p.Roads) > 0 || p.Length != 0 {
				t.Errorf("%s\nfrom %d to %d: %s, error %d", netText(n), from, to, permitText(p), e)
			}
			continue
		}
		at, passed := followed(n, usable, from, p.Roads)
		if at < len(p.Roads) || passed[at] != to || lengthOf(n, p.Roads) != p.Length || p.Length != distance(n, from, to) || len(p.Reached) > 0 {
			t.Errorf("%s\nfrom %d to %d: %s, not %d", netText(n), from, to, permitText(p), distance(n, from, to))
		}
	}
	if count[true] < 50 || count[false] < 3 {
		t.Error("too few of a kind", count)
	}
}

// distance returns the length of the shortest way from a place to another one,
// by way of the first places alone, then of one place more, and so on.
func distance(n permit.Net, from, to int) int {
	const far = 1 << 40
	table := make([][]int, n.Places)
	for i := range table {
		table[i] = slices.Repeat([]int{far}, n.Places)
		table[i][i] = 0
	}
	for _, r := range n.Roads {
		table[r.A][r.B] = min(table[r.A][r.B], r.Length)
		table[r.B][r.A] = table[r.A][r.B]
	}
	for k := range table {
		for i := range table {
			for j := range table {
				table[i][j] = min(table[i][j], table[i][k]+table[k][j])
			}
		}
	}
	return table[from][to]
}

func TestP8_7Errors(t *testing.T) {
	wrongTravels(func(n permit.Net, v permit.Transport, w api.Weather, want api.Errno) {
		noRoute(t, n, v, w, 0, 1, want)
		noRoute(t, n, v, w, -1, 1, want) // no place, but that comes later
	})
	wrongPlaces(func(n permit.Net, from, to int) { noRoute(t, n, slow(), calm(), from, to, api.ErrNone) })
}

// noRoute checks that there is no route and nothing else, but an error.
func noRoute(t *testing.T, n permit.Net, v permit.Transport, w api.Weather, from, to int, want api.Errno) {
	t.Helper()
	if p, e := permit.Route(n, v, w, from, to); permitText(p) != ": 0, reached " || e != want {
		t.Errorf("%s\nby %s in %s from %d to %d: %s, error %d, not %d", netText(n), transportText(v), weatherText(w), from, to, permitText(p), e, want)
	}
}

// wrongPlaces calls a function with numbers of which one at least is not that of
// a place, where there are ways and where there are none.
func wrongPlaces(call func(n permit.Net, from, to int)) {
	for _, n := range []permit.Net{net(3, triangle()...), net(3)} {
		for _, wrong := range append(extremeInts(), 3, api.MaxTowns) {
			call(n, wrong, 1)
			call(n, 0, wrong)
			call(n, wrong, wrong)
		}
	}
	call(net(1), 0, 1)
	call(net(1), 1, 0)
	call(greatestNet(), 0, api.MaxTowns)
}

func TestP8_8Examples(t *testing.T) {
	n := net(4, "0 1 5 over 0", "0 2 4", "2 1 4", "1 2 9 over 1", "1 3 2 over 2", "3 1 7")
	for _, c := range []struct {
		from, to int
		roads    string
		want     int
		wanted   api.Errno
	}{
		{0, 1, "0", 1, api.OK}, {1, 0, "0", 1, api.OK}, {0, 1, "1 2", 2, api.OK}, {1, 0, "2 1", 2, api.OK}, {0, 3, "1 2 4", 3, api.OK}, {0, 3, "1 2 5", 3, api.OK}, {3, 2, "5 0 1", 3, api.OK}, // not the best ones
		{0, 0, "", 0, api.OK}, {3, 3, "", 0, api.OK}, {0, 1, "", 0, api.ErrState}, // no roads
		{0, 2, "0", 1, api.ErrState}, {0, 0, "0", 1, api.ErrState}, {0, 1, "1", 1, api.ErrState}, {0, 1, "0 4", 2, api.ErrState}, // another end
		{0, 1, "6", 0, api.ErrState}, {0, 1, "-1", 0, api.ErrState}, {0, 1, "0 6", 1, api.ErrState}, {0, 1, "0 -9223372036854775808", 1, api.ErrState}, {0, 1, "9223372036854775807 0", 0, api.ErrState}, // no roads of the network
		{1, 2, "3", 0, api.ErrState}, {0, 2, "0 3", 1, api.ErrState}, {0, 2, "0 3 2", 1, api.ErrState}, // not usable
		{0, 1, "2", 0, api.ErrState}, {0, 1, "2 1", 0, api.ErrState}, {0, 1, "1 0", 1, api.ErrState}, {0, 3, "0 1", 1, api.ErrState}, {1, 2, "1 2", 0, api.ErrState}, {0, 3, "1 4", 1, api.ErrState}, // a gap
		{0, 0, "0 0", 1, api.ErrState}, {0, 1, "0 0 0", 1, api.ErrState}, {0, 0, "0 2 1", 2, api.ErrState}, {0, 1, "0 4 5", 2, api.ErrState}, {0, 2, "0 4 5 2", 2, api.ErrState}, {0, 1, "1 2 0 0", 2, api.ErrState}, {0, 0, "1 1", 1, api.ErrState}, // a circle
	} {
		checkKeeps(t, n, slow(), calm(), c.from, c.to, c.roads, c.want, c.wanted)
	}
	checkKeeps(t, n, slow(), breeze(), 0, 3, "1 2 4", 2, api.ErrState)
	checkKeeps(t, n, slow(), breeze(), 0, 3, "1 2 5", 3, api.OK)
	checkKeeps(t, n, transport("20+4 20+0", 0, 20), calm(), 0, 1, "0", 0, api.ErrState)
	checkKeeps(t, n, transport("20+4 20+0", 0, 20), calm(), 0, 1, "1 2", 2, api.OK)
	checkKeeps(t, net(1), slow(), calm(), 0, 0, "", 0, api.OK)
	checkKeeps(t, net(1), slow(), calm(), 0, 0, "0", 0, api.ErrState)
	great := "19 1 2 3 4 5 6 7 8 9 10 11 12 13 14 15 16 17 18"
	checkKeeps(t, greatestNet(), slow(), calm(), 0, 19, great, 19, api.OK)
	checkKeeps(t, greatestNet(), slow(), calm(), 0, 19, great+" 18", 19, api.ErrState)
	for range 10 {
		great += " " + great
	}
	checkKeeps(t, greatestNet(), slow(), calm(), 0, 19, great, 19, api.ErrState)
}

func TestP8_8Many(t *testing.T) {
	r := rand.New(rand.NewSource(88))
	count := map[api.Errno]int{}
	for range 1000 {
		n := net(2 + r.Intn(4))
		n.Roads = someRoads(r, n.Places, 1+r.Intn(9), len(n.Bridges))
		from, to, w := r.Intn(n.Places), r.Intn(n.Places), someWeather(r, 1)
		usable := usableOf(n, slow(), w)
		roads := someList(r, n, usable, from)
		at, passed := followed(n, usable, from, roads)
		wanted := api.ErrState
		if at == len(roads) && passed[at] == to {
			wanted = api.OK
		}
		count[wanted]++
		checkKeeps(t, n, slow(), w, from, to, intTexts(roads), at, wanted)
	}
	if count[api.OK] < 100 || count[api.ErrState] < 100 {
		t.Error("too few of a kind", count)
	}
}

// someList returns numbers of roads at random, most of which can be followed.
func someList(r *rand.Rand, n permit.Net, usable []bool, from int) []int {
	var roads []int
	for range r.Intn(5) {
		for range 20 {
			more := append(slices.Clone(roads), r.Intn(len(n.Roads)))
			if at, _ := followed(n, usable, from, more); at == len(more) {
				roads = more
				break
			}
		}
	}
	if r.Intn(3) == 0 {
		roads = slices.Insert(roads, r.Intn(len(roads)+1), r.Intn(len(n.Roads)+3)-1)
	}
	return roads
}

func TestP8_8Errors(t *testing.T) {
	for _, roads := range [][]int{nil, {1, 2}, {-1}, {1, -1}} {
		wrongTravels(func(n permit.Net, v permit.Transport, w api.Weather, want api.Errno) {
			noKeeps(t, n, v, w, 0, 1, roads, want)
			noKeeps(t, n, v, w, 0, -1, roads, want) // no place, but that comes later
		})
		wrongPlaces(func(n permit.Net, from, to int) { noKeeps(t, n, slow(), calm(), from, to, roads, api.ErrNone) })
	}
}

// noKeeps checks that roads are not followed at all, with an error.
func noKeeps(t *testing.T, n permit.Net, v permit.Transport, w api.Weather, from, to int, roads []int, want api.Errno) {
	t.Helper()
	if at, e := permit.Keeps(n, v, w, from, to, roads); at != 0 || e != want {
		t.Errorf("%s\nby %s in %s from %d to %d: %d, error %d, not %d", netText(n), transportText(v), weatherText(w), from, to, at, e, want)
	}
}
