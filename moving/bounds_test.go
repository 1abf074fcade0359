package moving_test

import (
	"math/big"
	"math/rand"
	"testing"

	"voussoir/api"
	"voussoir/exact"
	"voussoir/moving"
)

func TestP4_4Examples(t *testing.T) {
	for _, c := range []struct{ l, v, want string }{
		{"0@0 5@9/10..1 10@0", "10+4 0..10+0", "0..12"},
		{"0@0 5@1..9/10 10@0", "10+4 10..0+0", "0..12"}, // exchanged ends
		{"0@0 5@1 10@0", truck, "0..12"},
		{"0@0 5@-1..1 10@0", "2..3+0", "-3..3"},
		{"0@0 5@1..-1 10@0", "3..2+0", "-3..3"},
		{"0@0 5@-2..-1 10@0", "2..3+0", "-6..0"},
		{"0@0 10@0", "2..3+0", "0..0"},
		{"0@0 1@-1..2 2@0", "0+0", "0..0"},
		{"0@0 1@2 3@-2 4@0", "0..1+2 0..1+0", "-2..2"}, // where one axle raises it, the other one may be empty
		{"0@0 1@2 3@-2 4@0", "1+2 1+0", "-2..2"},
		{"0@0 1@2 3@-2 4@0", "1+2 1..3+0", "-6..4"},
		{"0@0 1@0..2 3@-2..0 4@0", "1..2+2 1..3+0", "-6..6"},
	} {
		s, e := moving.Bounds(bands(c.l), loads(c.v))
		checkSpan(t, c.v+" on "+c.l, s, e, c.want)
	}
}

func TestP4_4Errors(t *testing.T) {
	wrongCalls(func(what string, l []moving.Point, v []moving.Axle, valid bool) {
		var lines []moving.Band
		for _, p := range l {
			lines = append(lines, moving.Band{X: p.X, Y: exact.Span{Low: p.Y, High: p.Y}})
		}
		var vehicles []moving.Load
		for _, a := range v {
			vehicles = append(vehicles, moving.Load{Load: exact.Span{Low: a.Load, High: a.Load}, Gap: a.Gap})
		}
		if s, e := moving.Bounds(lines, vehicles); !valid {
			noSpan(t, what, s, e, api.ErrArg)
		} else {
			checkSpan(t, what, s, e, "0..12")
		}
	})
	for _, c := range [][2]string{
		{"0@0..1 5@1 10@0", truck}, {"0@-1..0 5@1 10@0", truck}, {"0@1..0 5@1 10@0", truck}, {"0@0..-1 5@1 10@0", truck}, {"0@-1..1 5@1 10@0", truck},
		{"0@0 5@1 10@0..1", truck}, {"0@0 5@1 10@-1/9..0", truck}, {"0@0 5@1 10@1..0", truck}, {"0@0 5@1..2 5@0", truck}, {"0@0 5@1..2 4@3 6@0", truck},
		{tent, "-1..1+0"}, {tent, "1..-1+0"}, {tent, "10..-1/9+0"}, {tent, "-2..-1+0"}, {tent, "1..2+1"}, {tent, "1..2+-1 1+0"}, {tent, "1..2+0 -1..0+0"}, {tent, ""}, {"", truck},
	} {
		s, e := moving.Bounds(bands(c[0]), loads(c[1]))
		noSpan(t, c[1]+" on "+c[0], s, e, api.ErrArg)
	}
}

// TestP4_10Corners checks bounds by the extremes of all lines and vehicles
// whose numbers are ends of the spans: each end is the effect of one of them.
func TestP4_10Corners(t *testing.T) {
	r := rand.New(rand.NewSource(410))
	for range 60 {
		l, v := someBands(r, someLine(r, 2+r.Intn(5))), someLoads(r, someVehicle(r, 1+r.Intn(3)))
		want := boundsOf(l, v)
		if s, e := moving.Bounds(l, v); e != api.OK || !want.are(s) {
			t.Fatalf("%s on %s: %s, error %d, not %s", loadsText(v), bandsText(l), spanText(s), e, want.text())
		}
	}
}

// between returns a number of a span: an end, or one between them.
func between(r *rand.Rand, s exact.Span) exact.Q {
	return s.Low.Plus(s.High.Minus(s.Low).Times(part(r.Intn(5), 4)))
}

func TestP4_10Inside(t *testing.T) {
	r := rand.New(rand.NewSource(411))
	for range 150 {
		l, v := someBands(r, someLine(r, 2+r.Intn(8))), someLoads(r, someVehicle(r, 1+r.Intn(5)))
		s, e := moving.Bounds(l, v)
		if e != api.OK {
			t.Fatal(e)
		}
		for range 4 {
			var some []moving.Point
			for _, b := range l {
				some = append(some, moving.Point{X: b.X, Y: between(r, b.Y)})
			}
			var heavy []moving.Axle
			for _, load := range v {
				heavy = append(heavy, moving.Axle{Load: between(r, load.Load), Gap: load.Gap})
			}
			for _, at := range append(somePositions(r, some, heavy), stopsOf(some, heavy)...) {
				if y := effectOf(some, heavy, at); y.Cmp(rat(s.Low)) < 0 || y.Cmp(rat(s.High)) > 0 {
					t.Fatalf("%s on %s: %s at %s is not in %s", vehicleText(heavy), lineText(some), y, at, spanText(s))
				}
			}
		}
	}
}

func TestP4_10OneNumberEach(t *testing.T) {
	r := rand.New(rand.NewSource(412))
	for range 150 {
		l, v := someLine(r, 2+r.Intn(8)), someVehicle(r, 1+r.Intn(5))
		x, _ := moving.Extremes(l, v)
		s, e := moving.Bounds(bands(lineText(l)), loads(vehicleText(v)))
		checkSpan(t, vehicleText(v)+" on "+lineText(l), s, e, x.Least.Text()+".."+x.Greatest.Text())
	}
}

// TestP4_10Great computes bounds of as many points and axles as there may be:
// at a stop, the most that each axle alone can do, on the line of all upper or
// of all lower ends.
func TestP4_10Great(t *testing.T) {
	r := rand.New(rand.NewSource(413))
	l, v := someBands(r, wholeLine(r, api.MaxPoints)), someLoads(r, wholeVehicle(r, api.MaxAxles))
	var low, high []moving.Point
	for _, b := range l {
		y := exact.Between(b.Y.Low, b.Y.High)
		low, high = append(low, moving.Point{X: b.X, Y: y.Low}), append(high, moving.Point{X: b.X, Y: y.High})
	}
	var gaps []moving.Axle
	for _, load := range v {
		gaps = append(gaps, moving.Axle{Gap: load.Gap})
	}
	var want ends
	for _, at := range stopsOf(low, gaps) {
		least, most := new(big.Rat), new(big.Rat)
		for i, x := range axlesAt(gaps, at) {
			load, under, over := endsOf(v[i].Load), valueOf(low, x), valueOf(high, x)
			all := ends{}.with(times(load.low, under)).with(times(load.high, under)).with(times(load.low, over)).with(times(load.high, over))
			least, most = plus(least, all.low), plus(most, all.high)
		}
		want = want.with(least).with(most)
	}
	if s, e := moving.Bounds(l, v); e != api.OK || !want.are(s) {
		t.Fatalf("%s, error %d, not %s", spanText(s), e, want.text())
	}
}
