package permit_test

import (
	"math/rand"
	"testing"

	"voussoir/api"
	"voussoir/exact"
	"voussoir/permit"
)

func TestP8_1Valid(t *testing.T) {
	list := []permit.Bridge{bridge(swing), bridge(swing, beam), bridge("0:0"), bridge("0:1 300:0", beam, beam), greatest(), {Impact: impacts("0:1")}}
	for _, s := range []string{
		"0@0 10@0 | 0 | 0", "-5/3@0 -1@0 0@9..-9 1/7@0 | -1..1 | 0", tent + " | 3..2 | 20..0", "0@0 5@1..9/10 10@0 | 2..3 | -1..-2",
	} {
		list = append(list, bridge(swing, s))
	}
	for _, b := range list {
		if e := permit.CheckBridge(b); e != api.OK {
			t.Errorf("%s: error %d", bridgeText(b), e)
		}
	}
}

func TestP8_1Errors(t *testing.T) {
	for _, b := range wrongBridges() {
		if e := permit.CheckBridge(b); e != api.ErrArg {
			t.Errorf("%s: error %d", bridgeText(b), e)
		}
	}
}

func TestP8_2Examples(t *testing.T) {
	checkBears(t, bridge(swing, beam), slow(), -1)
	heavy := bridge(swing, tent+" | 2..3 | 0..17")
	checkBears(t, heavy, transport(truck, 0, 50), 0)
	checkBears(t, heavy, transport(truck, 0, 29), -1)
	checkBears(t, heavy, transport(truck, 0, 30), 0)
	checkBears(t, heavy, transport(truck, 30, 30), 0)
	checkBears(t, heavy, transport(truck, 29, 29), -1)
	checkBears(t, bridge(swing, tent+" | 2..3 | 0..2"), slow(), 0)
}

// TestP8_2Ends moves each number to where a member is only just safe, and a
// little beyond.
func TestP8_2Ends(t *testing.T) {
	for _, c := range []struct {
		member string
		want   int
	}{
		{tent + " | 2..3 | 0..15", -1}, {tent + " | 3..2 | 0..15", -1}, {tent + " | 2..3 | 0..149/10", 0}, {tent + " | 2..31/10 | 0..15", 0}, {tent + " | 31/10..2 | 0..15", 0},
		{tent + " | 2..3 | 2..15", -1}, {tent + " | 3..2 | 2..15", -1}, {tent + " | 2..3 | 21/10..15", 0}, {tent + " | 19/10..3 | 2..15", 0},
		{tent + " | 2..3 | 15..2", 0}, {tent + " | 2..3 | 20..0", 0}, {"0@0 10@0 | 2 | 2..2", -1}, {"0@0 10@0 | 2 | 3..1", 0}, // it bears nothing
		{"0@0 5@-1 10@0 | 2..3 | -10..3", -1}, {"0@0 5@-1 10@0 | 2..3 | -99/10..3", 0}, {"0@0 5@-1 10@0 | 2..3 | -10..29/10", 0},
		{"0@0 5@-1/2..1 10@0 | 2..3 | -4..15", -1}, {"0@0 5@1..-1/2 10@0 | 2..3 | -4..15", -1}, {"0@0 5@-1/2..1 10@0 | 2..3 | -39/10..15", 0}, {"0@0 5@-1/2..11/10 10@0 | 2..3 | -4..15", 0},
		{"0@0 5@-1/2..11/10 10@0 | -3..-2 | -9..56/5", -1}, {"0@0 5@-1/2..11/10 10@0 | -3..-2 | -9..11", 0},
	} {
		checkBears(t, bridge("0:1", c.member), slow(), c.want)
		checkBears(t, bridge("0:2 10:1 21:2", c.member), transport(truck, 10, 20), c.want)
	}
	b := bridge("0:1", tent+" | 0 | 0..12")
	for _, c := range []struct {
		loads string
		want  int
	}{
		{truck, -1}, {"10+5 10+0", -1}, {"10+3 10+0", 0}, {"12+0", -1}, {"12+0 1/9+0", 0}, {"12..121/10+0", 0}, {"121/10..12+0", 0}, {"0..12+0", -1}, {"12..0+0", -1},
		{"10+4 0..10+0", -1}, {"10+4 0..11+0", 0}, {"0+0", -1}, {"0+4 0+0", -1},
	} {
		checkBears(t, b, transport(c.loads, 0, 0), c.want)
	}
}

func TestP8_2Speeds(t *testing.T) {
	b := bridge("0:1 30:5/4 50:2 51:0 100:1 300:3", tent+" | 3 | 3..18")
	for _, c := range []struct{ from, to, want int }{
		{0, 49, -1}, {0, 50, 0}, {50, 50, 0}, {50, 51, 0}, {51, 51, -1}, {49, 51, 0}, {51, 299, -1}, {100, 299, -1}, {100, 300, 0}, {300, 300, 0}, {0, 300, 0},
	} {
		checkBears(t, b, transport(truck, c.from, c.to), c.want)
	}
}

func TestP8_2First(t *testing.T) {
	good, bad, worse := beam, tent+" | 2..3 | 0..14", tent+" | 2..3 | 0..2"
	checkBears(t, bridge("0:1"), slow(), -1)
	checkBears(t, bridge("0:1", good, good), slow(), -1)
	checkBears(t, bridge("0:1", good, bad), slow(), 1)
	checkBears(t, bridge("0:1", bad, worse), slow(), 0)
	checkBears(t, bridge("0:1", good, good, worse, good, bad), slow(), 2)
	checkBears(t, greatest(), permit.Transport{Loads: longLoads(api.MaxAxles), To: api.MaxSpeed}, -1)
	last := greatest()
	last.Members[api.MaxMembers-1].High = exact.Q{}
	checkBears(t, last, permit.Transport{Loads: longLoads(api.MaxAxles), To: api.MaxSpeed}, api.MaxMembers-1)
}

func TestP8_2Many(t *testing.T) {
	r := rand.New(rand.NewSource(82))
	count := map[int]int{}
	for range 400 {
		v := someTransport(r, 1+r.Intn(3))
		b := someBridge(r, r.Intn(4), v)
		want := firstUnsafe(b, v)
		count[want]++
		checkBears(t, b, v, want)
	}
	if count[-1] < 20 || count[0] < 20 || count[1] < 10 {
		t.Error("too few of a kind", count)
	}
}

func TestP8_2Errors(t *testing.T) {
	wrongPassages(func(b permit.Bridge, v permit.Transport) {
		if n, e := permit.Bears(b, v); n != 0 || e != api.ErrArg {
			t.Errorf("%s\nby %s: %d, error %d", bridgeText(b), transportText(v), n, e)
		}
	})
}

// wrongPassages calls a function with all that makes a bridge or a transport not
// valid. The bridge would not bear anything.
func wrongPassages(call func(b permit.Bridge, v permit.Transport)) {
	for _, b := range wrongBridges() {
		call(b, slow())
	}
	for _, v := range wrongTransports() {
		call(bridge(swing), v)
		call(bridge(swing, tent+" | 2..3 | 0..2"), v)
	}
	call(permit.Bridge{}, permit.Transport{})
}

func TestP8_3Examples(t *testing.T) {
	checkRate(t, bridge(swing, beam), slow(), "17/12")
	checkRate(t, bridge(swing, beam), transport(truck, 0, 50), "17/15")
	checkRate(t, bridge(swing, tent+" | 2..3 | 0..17"), transport(truck, 0, 50), "14/15")
	checkRate(t, bridge(swing, tent+" | 2..3 | 0..17"), transport("10..10+4 10..10+0", 0, 20), "7/6")
}

func TestP8_3Sides(t *testing.T) {
	for _, c := range []struct{ member, want string }{
		{tent + " | 3..2 | 0..20", "17/12"}, {tent + " | 2..3 | 2..20", "17/12"}, {tent + " | 2..3 | 0..3", "0"}, {tent + " | 2..3 | 2..3", "0"},
		{"0@0 5@-1 10@0 | 2..3 | -2..20", "1/3"}, {"0@0 5@-1 10@0 | 3..2 | -2..3", "1/3"}, {"0@0 5@-1 10@0 | 2..3 | 2..20", "0"}, {"0@0 5@-1 10@0 | -3..-2 | -9..-2", "1/2"},
		{"0@0 5@-1/2..1 10@0 | 2..3 | 0..15", "1/3"}, {"0@0 5@1..-1/2 10@0 | 2..3 | -4..6", "1/4"}, {"0@0 5@-1/2..1 10@0 | 2..3 | -4..15", "1"}, {"0@0 5@-1/2..1 10@0 | 2..3 | -10..27", "2"},
		{"0@0 5@-1..-1/2 10@0 | 2..3 | -10..3", "1"}, {"0@0 5@1/2..1 10@0 | 0 | 0..12", "1"},
	} {
		checkRate(t, bridge("0:1", c.member), slow(), c.want)
		checkRate(t, bridge("0:1 20:1/3 50:1/2", c.member), transport(truck, 0, 60), c.want)
		strong := tent + " | 2..3 | 0..200"
		checkRate(t, bridge("0:1", strong, c.member, strong), slow(), c.want)
	}
}

func TestP8_3NoLimit(t *testing.T) {
	checkRate(t, bridge("0:1"), slow(), "")
	checkRate(t, bridge("0:1", beam), transport("0+0", 0, 300), "")
	checkRate(t, bridge("0:1", beam), transport("0+4 0..0+0", 0, 300), "")
	checkRate(t, bridge("0:0", beam, beam), slow(), "")
	checkRate(t, bridge("0:1 30:0 40:2", beam), transport(truck, 30, 39), "")
	checkRate(t, bridge("0:1 30:0 40:2", beam), transport(truck, 30, 40), "17/24")
	checkRate(t, bridge("0:1 30:0 40:2", beam), transport(truck, 29, 39), "17/12")
	checkRate(t, bridge("0:1", "0@0 5@0 10@0 | 2..3 | 2..3"), slow(), "")
	checkRate(t, bridge("0:1", "0@0 5@0 10@0 | 2..3 | 2..3", beam), slow(), "17/12")
}

func TestP8_3Many(t *testing.T) {
	r := rand.New(rand.NewSource(83))
	count := map[string]int{}
	for range 400 {
		v := someTransport(r, 1+r.Intn(3))
		b := someBridge(r, r.Intn(4), v)
		x, limited, e := permit.Rate(b, v)
		none := firstUnsafe(b, timesLoads(v, exact.Q{})) != -1
		switch {
		case none:
			count["weak"]++
			if e != api.ErrWeak || limited || x.Sign() != 0 {
				t.Fatalf("%s: %s, %v, error %d", bridgeText(b), x.Text(), limited, e)
			}
		case limited:
			count["limited"]++
			if e != api.OK || firstUnsafe(b, timesLoads(v, x)) != -1 || firstUnsafe(b, timesLoads(v, x.Plus(part(1, 1<<40)))) == -1 {
				t.Fatalf("%s\nby %s: %s, error %d", bridgeText(b), transportText(v), x.Text(), e)
			}
		default:
			count["not limited"]++
			if e != api.OK || x.Sign() != 0 || firstUnsafe(b, timesLoads(v, exact.Int(1<<60))) != -1 {
				t.Fatalf("%s\nby %s: %s, error %d", bridgeText(b), transportText(v), x.Text(), e)
			}
		}
	}
	if count["weak"] < 10 || count["limited"] < 50 || count["not limited"] < 10 {
		t.Error("too few of a kind", count)
	}
}

func TestP8_3Errors(t *testing.T) {
	wrongPassages(func(b permit.Bridge, v permit.Transport) { noRate(t, b, v, api.ErrArg) })
	for _, s := range []string{
		tent + " | 2..3 | 0..2", tent + " | 2..3 | 0..29/10", tent + " | 3..2 | 0..29/10", tent + " | 2..3 | 21/10..20", tent + " | 3..2 | 21/10..20",
		tent + " | 2 | 3..1", "0@0 10@0 | 2..3 | 0..2", "0@0 10@0 | 2..3 | 3..9",
	} {
		for _, v := range []permit.Transport{slow(), transport("0+0", 0, 0), transport("0..10+0", 300, 300)} {
			noRate(t, bridge(swing, s), v, api.ErrWeak)
			noRate(t, bridge("0:0", beam, s), v, api.ErrWeak)
			noRate(t, bridge(swing, s, beam), v, api.ErrWeak)
		}
	}
}

// noRate checks that there is no rating, but an error.
func noRate(t *testing.T, b permit.Bridge, v permit.Transport, want api.Errno) {
	t.Helper()
	if x, limited, e := permit.Rate(b, v); e != want || limited || x.Sign() != 0 {
		t.Errorf("Rate of %s\nby %s: %s, %v, error %d, not %d", bridgeText(b), transportText(v), x.Text(), limited, e, want)
	}
}

func TestP8_4Examples(t *testing.T) {
	checkPost(t, bridge(swing, beam), loads(truck), api.MaxSpeed)
	checkPost(t, bridge(swing, tent+" | 2..3 | 0..17"), loads(truck), 29)
	checkPost(t, bridge(swing, tent+" | 2..3 | 0..2"), loads(truck), -1)
	light, middle, strong := tent+" | 0 | 0..12", tent+" | 0 | 0..15", tent+" | 0 | 0..100"
	for _, c := range []struct {
		impact  string
		members []string
		want    int
	}{
		{"0:1", nil, 300}, {"0:1", []string{light}, 300}, {"0:11/10", []string{light}, -1}, {"0:0", []string{light}, 300}, {"0:5/4", []string{middle}, 300}, {"0:13/10", []string{middle}, -1},
		{"0:1 1:2", []string{light}, 0}, {"0:1 2:2", []string{light}, 1}, {"0:1 300:2", []string{light}, 299}, {"0:1 300:1", []string{light}, 300}, {"0:2 1:1", []string{light}, -1},
		{"0:1 30:2 31:1", []string{light}, 29}, {"0:1 30:1/2 60:1 90:5/4 91:0", []string{light}, 89}, {"0:1 30:1/2 60:1 90:5/4 91:2", []string{middle}, 90},
		{"0:1 90:5/4 91:2", []string{light, middle}, 89}, {"0:1 90:5/4 91:2", []string{middle, light}, 89}, {"0:1 90:5/4 91:2", []string{strong, middle, strong}, 90}, {"0:1 90:5/4 91:2", []string{strong}, 300},
		{"0:1 90:5/4 91:2", []string{light, beam, tent + " | 2..3 | 0..2"}, -1}, {"0:1 90:5/4", []string{tent + " | 2 | 3..1", light}, -1},
		{"0:1 90:5/4 91:2", []string{"0@0 5@-1 10@0 | 3 | -9..3"}, 89}, {"0:1 90:5/4 91:2", []string{"0@0 5@-1 10@0 | 3 | -12..3"}, 90}, {"0:0 7:1", []string{tent + " | 3 | 3..3"}, 6},
	} {
		checkPost(t, bridge(c.impact, c.members...), loads(truck), c.want)
	}
}

func TestP8_4Many(t *testing.T) {
	r := rand.New(rand.NewSource(84))
	count := map[string]int{}
	for range 400 {
		v := someTransport(r, 1+r.Intn(3))
		v.To -= v.From // from the speed 0 to as many speeds
		v.From = 0
		b := someBridge(r, r.Intn(4), v)
		want := -1
		for speed, safe := 0, true; speed <= api.MaxSpeed; speed++ {
			if speed == 0 || factorAt(b.Impact, speed).Cmp(factorAt(b.Impact, speed-1)) != 0 {
				safe = safe && firstUnsafe(b, permit.Transport{Loads: v.Loads, From: speed, To: speed}) == -1
			}
			if safe {
				want = speed
			}
		}
		switch want {
		case -1:
			count["none"]++
		case api.MaxSpeed:
			count["all"]++
		default:
			count["some"]++
		}
		checkPost(t, b, v.Loads, want)
	}
	if count["none"] < 10 || count["some"] < 10 || count["all"] < 10 {
		t.Error("too few of a kind", count)
	}
}

func TestP8_4Errors(t *testing.T) {
	for _, b := range wrongBridges() {
		if speed, e := permit.Post(b, loads(truck)); speed != 0 || e != api.ErrArg {
			t.Errorf("%s: %d, error %d", bridgeText(b), speed, e)
		}
	}
	for _, wrong := range append(wrongLoads(), nil) {
		for _, b := range []permit.Bridge{bridge(swing), bridge(swing, tent+" | 2..3 | 0..2"), {}} {
			if speed, e := permit.Post(b, wrong); speed != 0 || e != api.ErrArg {
				t.Errorf("%s\nfor %s: %d, error %d", bridgeText(b), loadsText(wrong), speed, e)
			}
		}
	}
}

func TestP8_5Examples(t *testing.T) {
	b := bridge(swing, tent+" | 2..3 | 0..2")
	for _, c := range []struct {
		weather string
		want    bool
	}{
		{"0 0 0", true}, {"10 20 5", true}, {"11 20 5", false}, {"10 21 5", false}, {"10 20 6", false}, {"11 0 0", false}, {"0 21 0", false}, {"0 0 6", false}, {"20 10 5", false}, {"5 20 10", false},
		{"11 21 6", false}, {"1000000 1000000 1000000", false}, {"9 19 4", true},
	} {
		if open, e := permit.Open(b, weather(c.weather)); open != c.want || e != api.OK {
			t.Errorf("%s: %v, error %d", c.weather, open, e)
		}
	}
	great := weather("1000000 1000000 1000000")
	for _, b := range []permit.Bridge{greatest(), {Impact: impacts("0:1"), Most: great}} {
		if open, e := permit.Open(b, great); !open || e != api.OK {
			t.Errorf("%v, error %d", open, e)
		}
	}
	if open, e := permit.Open(permit.Bridge{Impact: impacts("0:1")}, calm()); !open || e != api.OK {
		t.Errorf("%v, error %d", open, e)
	}
}

func TestP8_5Errors(t *testing.T) {
	for _, b := range wrongBridges() {
		for _, w := range append(wrongWeather(), calm()) {
			if open, e := permit.Open(b, w); open || e != api.ErrArg {
				t.Fatalf("%s in %s: %v, error %d", bridgeText(b), weatherText(w), open, e)
			}
		}
	}
	for _, w := range wrongWeather() {
		for _, b := range []permit.Bridge{bridge(swing), greatest()} {
			if open, e := permit.Open(b, w); open || e != api.ErrRange {
				t.Errorf("%s: %v, error %d", weatherText(w), open, e)
			}
		}
	}
}
