package moving_test

import (
	"math/big"
	"math/rand"
	"testing"

	"voussoir/api"
	"voussoir/exact"
	"voussoir/moving"
)

func TestP4_7Examples(t *testing.T) {
	twin := "0@0 1@3 2@0 8@0 9@-3 10@0"
	for _, c := range []struct {
		l, v, distance string
		most           int
		want           string
	}{
		{tent, truck, "1", 2, "0..20"}, {tent, truck, "1", 1, "0..12"}, {tent, truck, "1", 0, "0..0"}, {tent, truck, "1", 6, "0..20"},
		{tent, truck, "6", 2, "0..12"}, {tent, truck, "5", 2, "0..12"}, {tent, truck, "1000000", 6, "0..12"},
		{tent, "10+0", "0", 6, "0..60"}, {tent, "10+0", "0", 2, "0..20"}, {tent, "10+0", "5", 2, "0..10"}, {tent, "10+0", "1", 3, "0..26"}, {tent, "10+0", "1", 6, "0..42"},
		{"0@0 5@-1 10@0", "10+0", "1", 3, "-26..0"}, {"0@0 10@0", "10+0", "1", 3, "0..0"}, {tent, "0+0", "0", 6, "0..0"},
		{twin, "1+0", "1", 2, "-3..3"}, {twin, "1+0", "1/2", 2, "-9/2..9/2"}, {twin, "1+0", "8", 2, "-3..3"}, {twin, "1+8 1+0", "0", 6, "-3..3"},
		{"0@0 1@3 2@0 5@0 6@3 7@0", "1+0", "5", 2, "0..6"}, {"0@0 1@3 2@0 5@0 6@3 7@0", "1+0", "11/2", 2, "0..9/2"}, {"0@0 1@3 2@0 5@0 6@3 7@0", "1+0", "4", 2, "0..6"},
		{"0@0 3@3 6@0", "1+0", "2", 2, "0..4"}, {"0@0 1/2@1 1@0 3/2@1 2@0", "1+0", "1/3", 3, "0..7/3"},
		{"0@0 1@1 2@0", "6+0", "2/3", 3, "0..10"}, {"0@0 10@10 11@0", "1+0", "3/2", 4, "0..31"},
	} {
		s, e := moving.Queue(line(c.l), vehicle(c.v), num(c.distance), c.most)
		checkSpan(t, c.v+" on "+c.l+", "+c.distance+" apart", s, e, c.want)
	}
}

func TestP4_7Errors(t *testing.T) {
	wrongCalls(func(what string, l []moving.Point, v []moving.Axle, valid bool) {
		for _, distance := range []string{"1", "-1"} { // the line and the vehicle come first
			s, e := moving.Queue(l, v, num(distance), 2)
			switch {
			case !valid:
				noSpan(t, what, s, e, api.ErrArg)
			case distance == "1":
				checkSpan(t, what, s, e, "0..20")
			}
		}
	})
	l, v := line(tent), vehicle(truck)
	for _, distance := range []string{"-1", "-1/1000", "-5", "-1/340282366920938463463374607431768211455"} {
		s, e := moving.Queue(l, v, num(distance), 2)
		noSpan(t, "distance "+distance, s, e, api.ErrRange)
	}
	for _, most := range append(extremeInts(), api.MaxVehicles+1) {
		s, e := moving.Queue(l, v, num("1"), most)
		noSpan(t, whole(most).Text()+" vehicles", s, e, api.ErrRange)
	}
}

// wholeLine returns a line at random whose places are integers.
func wholeLine(r *rand.Rand, points int) []moving.Point {
	l := someLine(r, points)
	x := -r.Intn(5)
	for i := range l {
		l[i].X = whole(x)
		x += 1 + r.Intn(4)
	}
	return l
}

// wholeVehicle returns a vehicle at random whose gaps are integers.
func wholeVehicle(r *rand.Rand, axles int) []moving.Axle {
	v := someVehicle(r, axles)
	for i := range axles - 1 {
		v[i].Gap = whole(r.Intn(4))
	}
	return v
}

// scaled returns a line and a vehicle with all places and gaps so many times as great.
func scaled(l []moving.Point, v []moving.Axle, by exact.Q) ([]moving.Point, []moving.Axle) {
	var line []moving.Point
	for _, p := range l {
		line = append(line, moving.Point{X: p.X.Times(by), Y: p.Y})
	}
	var vehicle []moving.Axle
	for _, a := range v {
		vehicle = append(vehicle, moving.Axle{Load: a.Load, Gap: a.Gap.Times(by)})
	}
	return line, vehicle
}

// TestP4_7Many tries all queues at integer positions, where all lengths are
// integers, and then changes the unit of length.
func TestP4_7Many(t *testing.T) {
	r := rand.New(rand.NewSource(47))
	for range 1500 {
		l, v, distance, most := wholeLine(r, 2+r.Intn(6)), wholeVehicle(r, 1+r.Intn(3)), whole(r.Intn(5)), r.Intn(4)
		if r.Intn(10) == 0 {
			distance, most = distance.Plus(whole(2)), api.MaxVehicles
		}
		want := queuesOf(l, v, distance, most)
		by := part(1+r.Intn(9), 1+r.Intn(9))
		l, v = scaled(l, v, by)
		if s, e := moving.Queue(l, v, distance.Times(by), most); e != api.OK || !want.are(s) {
			t.Fatalf("%d of %s on %s, %s apart, times %s: %s, error %d, not %s",
				most, vehicleText(v), lineText(l), distance.Text(), by.Text(), spanText(s), e, want.text())
		}
	}
}

// someLane returns a line, a vehicle and a distance at random.
func someLane(r *rand.Rand) ([]moving.Point, []moving.Axle, exact.Q) {
	return someLine(r, 2+r.Intn(6)), someVehicle(r, 1+r.Intn(4)), someQ(r, 0, 8)
}

func TestP4_11Inside(t *testing.T) {
	r := rand.New(rand.NewSource(411))
	for range 100 {
		l, v, distance := someLane(r)
		most := 1 + r.Intn(api.MaxVehicles)
		s, e := moving.Queue(l, v, distance, most)
		if e != api.OK {
			t.Fatal(e)
		}
		apart := plus(lengthOf(v), rat(distance))
		for _, at := range append(somePositions(r, l, v), stopsOf(l, v)...) {
			sum := new(big.Rat)
			for range most {
				sum = plus(sum, effectOf(l, v, at))
				if sum.Cmp(rat(s.Low)) < 0 || sum.Cmp(rat(s.High)) > 0 {
					t.Fatalf("%s on %s, %s apart: %s is not in %s", vehicleText(v), lineText(l), distance.Text(), sum, spanText(s))
				}
				more := minus(at, apart)
				at = minus(more, big.NewRat(int64(r.Intn(6)/3), 2)) // now and then a bit farther than it must be
			}
		}
	}
}

func TestP4_11MostOne(t *testing.T) {
	r := rand.New(rand.NewSource(412))
	for range 100 {
		l, v, distance := someLane(r)
		x, _ := moving.Extremes(l, v)
		s, e := moving.Queue(l, v, distance, 1)
		checkSpan(t, vehicleText(v)+" on "+lineText(l), s, e, x.Least.Text()+".."+x.Greatest.Text())
		s, e = moving.Queue(l, v, distance, 0)
		checkSpan(t, "no vehicle", s, e, "0..0")
	}
}

func TestP4_11NotNarrower(t *testing.T) {
	r := rand.New(rand.NewSource(413))
	for range 40 {
		l, v, distance := someLane(r)
		var before exact.Span
		for most := range api.MaxVehicles + 1 {
			s, e := moving.Queue(l, v, distance, most)
			if e != api.OK || s.Low.Cmp(before.Low) > 0 || s.High.Cmp(before.High) < 0 {
				t.Fatalf("%d of %s on %s: error %d, %s after %s", most, vehicleText(v), lineText(l), e, spanText(s), spanText(before))
			}
			before = s
		}
		closer, e := moving.Queue(l, v, distance.Times(part(r.Intn(8), 8)), api.MaxVehicles)
		if e != api.OK || before.Low.Cmp(closer.Low) < 0 || before.High.Cmp(closer.High) > 0 {
			t.Fatalf("%s on %s: error %d, closer %s, farther %s", vehicleText(v), lineText(l), e, spanText(closer), spanText(before))
		}
	}
}

// TestP4_7Great computes a queue of as much of everything as there may be.
func TestP4_7Great(t *testing.T) {
	l, v := longLine(api.MaxPoints), longVehicle(api.MaxAxles)
	want := queuesOf(l, v, whole(5), 2)
	if s, e := moving.Queue(l, v, whole(5), 2); e != api.OK || !want.are(s) {
		t.Errorf("%s, error %d, not %s", spanText(s), e, want.text())
	}
	r := rand.New(rand.NewSource(471))
	l, v = someLine(r, api.MaxPoints), someVehicle(r, api.MaxAxles)
	x, _ := moving.Extremes(l, v)
	s, e := moving.Queue(l, v, num("1/3"), api.MaxVehicles)
	if e != api.OK || s.Low.Cmp(x.Least) > 0 || s.High.Cmp(x.Greatest) < 0 {
		t.Errorf("%s, error %d, narrower than one vehicle", spanText(s), e)
	}
}
