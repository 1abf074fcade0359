package permit_test

import (
	"math/rand"
	"testing"

	"voussoir/api"
	"voussoir/exact"
	"voussoir/moving"
	"voussoir/permit"
)

// someLine returns a line whose points are in bands.
func someLine(r *rand.Rand, l []moving.Band) []moving.Point {
	var line []moving.Point
	for _, b := range l {
		line = append(line, moving.Point{X: b.X, Y: between(r, b.Y)})
	}
	return line
}

// someVehicle returns a vehicle whose loads are in spans.
func someVehicle(r *rand.Rand, v []moving.Load) []moving.Axle {
	var vehicle []moving.Axle
	for _, l := range v {
		vehicle = append(vehicle, moving.Axle{Load: between(r, l.Load), Gap: l.Gap})
	}
	return vehicle
}

// TestP8_9Passages lets vehicles drive over bridges that bear them: whatever
// they weigh, wherever they are, and whatever the bridge is.
func TestP8_9Passages(t *testing.T) {
	r := rand.New(rand.NewSource(89))
	count := map[int]int{}
	for range 400 {
		v := someTransport(r, 1+r.Intn(4))
		b := someBridge(r, 1+r.Intn(3), someTransport(r, 2))
		unsafe, e := permit.Bears(b, v)
		count[unsafe]++
		if e != api.OK {
			t.Fatal(e)
		}
		if unsafe == -1 {
			drive(t, r, b, v)
		}
	}
	if count[-1] < 20 || count[0] < 20 {
		t.Error("too few of a kind", count)
	}
}

// drive checks some passages of a transport over a bridge that bears it.
func drive(t *testing.T, r *rand.Rand, b permit.Bridge, v permit.Transport) {
	t.Helper()
	for _, m := range b.Members {
		for range 4 {
			line, vehicle := someLine(r, m.Bands), someVehicle(r, v.Loads)
			dead, factor := between(r, m.Dead), factorAt(b.Impact, v.From+r.Intn(v.To-v.From+1))
			for _, at := range append(stopsOf(line, vehicle), someQ(r, -30, 50), someQ(r, -30, 50), someQ(r, -3000, -2000), someQ(r, 2000, 3000)) {
				effect, e := moving.Effect(line, vehicle, at)
				sum := dead.Plus(effect.Times(factor))
				if e != api.OK || sum.Cmp(m.Low) < 0 || sum.Cmp(m.High) > 0 {
					t.Fatalf("%s\nby %s at %s: %s, error %d", bridgeText(b), transportText(v), at.Text(), sum.Text(), e)
				}
			}
		}
	}
}

// TestP8_10Ratings multiplies loads by ratings, and by a little less and more.
func TestP8_10Ratings(t *testing.T) {
	r := rand.New(rand.NewSource(810))
	count := map[string]int{}
	for range 500 {
		v := someTransport(r, 1+r.Intn(4))
		b := someBridge(r, r.Intn(3), someTransport(r, 2))
		x, limited, e := permit.Rate(b, v)
		unsafe, _ := permit.Bears(b, v)
		if safe := e == api.OK && (!limited || x.Cmp(whole(1)) >= 0); safe != (unsafe == -1) {
			t.Fatalf("%s\nby %s: %s, %v, error %d, and %d", bridgeText(b), transportText(v), x.Text(), limited, e, unsafe)
		}
		switch {
		case e == api.ErrWeak:
			count["weak"]++
			checkFactor(t, b, v, exact.Q{}, false)
		case limited:
			count["limited"]++
			for _, less := range []exact.Q{{}, part(1, 3), part(999999, 1000000), whole(1)} {
				checkFactor(t, b, v, x.Times(less), true)
			}
			for _, more := range []exact.Q{part(1, 1<<50), part(1, 9), whole(1 << 50)} {
				checkFactor(t, b, v, x.Plus(more), false)
			}
		default:
			count["not limited"]++
			for _, factor := range []exact.Q{{}, part(1, 3), whole(1), whole(1 << 50)} {
				checkFactor(t, b, v, factor, true)
			}
		}
	}
	if count["weak"] < 20 || count["limited"] < 50 || count["not limited"] < 20 {
		t.Error("too few of a kind", count)
	}
}

// checkFactor checks whether a bridge bears a transport with all loads
// multiplied by a factor.
func checkFactor(t *testing.T, b permit.Bridge, v permit.Transport, factor exact.Q, want bool) {
	t.Helper()
	if unsafe, e := permit.Bears(b, timesLoads(v, factor)); (unsafe == -1) != want || e != api.OK {
		t.Errorf("%s\nby %s, %s times: %d, error %d", bridgeText(b), transportText(v), factor.Text(), unsafe, e)
	}
}

// TestP8_11Speeds checks that bridges bear vehicles up to the speeds that are
// posted, and no further.
func TestP8_11Speeds(t *testing.T) {
	r := rand.New(rand.NewSource(811))
	count := map[string]int{}
	for range 200 {
		v := someTransport(r, 1+r.Intn(4))
		b := someBridge(r, r.Intn(3), someTransport(r, 2))
		speed, e := permit.Post(b, v.Loads)
		if e != api.OK {
			t.Fatal(e)
		}
		if speed >= 0 {
			count["some"]++
			checkFactor(t, b, permit.Transport{Loads: v.Loads, To: speed}, whole(1), true)
			from := r.Intn(speed + 1)
			fewer := permit.Transport{Loads: v.Loads, From: from, To: from + r.Intn(speed+1-from)}
			checkFactor(t, b, fewer, whole(1), true)
			fewer.Loads = smallerLoads(r, v.Loads)
			checkFactor(t, b, fewer, whole(1), true)
		}
		if speed < api.MaxSpeed {
			count["not all"]++
			checkFactor(t, b, permit.Transport{Loads: v.Loads, To: speed + 1}, whole(1), false)
		}
	}
	if count["some"] < 50 || count["not all"] < 50 {
		t.Error("too few of a kind", count)
	}
}

// smallerLoads returns loads with smaller ranges.
func smallerLoads(r *rand.Rand, v []moving.Load) []moving.Load {
	var list []moving.Load
	for _, l := range v {
		list = append(list, moving.Load{Load: exact.Span{Low: between(r, l.Load), High: between(r, l.Load)}, Gap: l.Gap})
	}
	return list
}

// TestP8_12NoWay checks that the places that are reached are a closed set, by
// the roads that Usable tells, and that Keeps follows each route.
func TestP8_12NoWay(t *testing.T) {
	r := rand.New(rand.NewSource(812))
	count := map[api.Errno]int{}
	for range 60 {
		v := someTransport(r, 1+r.Intn(2))
		n, w := someNet(r, v), someWeather(r, 5)
		usable, e := permit.Usable(n, v, w)
		if e != api.OK {
			t.Fatal(e)
		}
		for from := range n.Places {
			to := r.Intn(n.Places)
			p, e := permit.Route(n, v, w, from, to)
			count[e]++
			if e == api.OK {
				checkKeeps(t, n, v, w, from, to, intTexts(p.Roads), len(p.Roads), api.OK)
				continue
			}
			if e != api.ErrNoWay || len(p.Reached) != n.Places || !p.Reached[from] || p.Reached[to] {
				t.Fatalf("%s\nfrom %d to %d: %s, error %d", netText(n), from, to, permitText(p), e)
			}
			for i, road := range n.Roads {
				if usable[i] && p.Reached[road.A] != p.Reached[road.B] {
					t.Fatalf("%s\nfrom %d to %d: %s, but road %d is usable", netText(n), from, to, permitText(p), i)
				}
			}
		}
	}
	if count[api.OK] < 50 || count[api.ErrNoWay] < 50 {
		t.Error("too few of a kind", count)
	}
}
