package moving_test

import (
	"math/big"
	"math/rand"
	"testing"

	"voussoir/api"
	"voussoir/exact"
	"voussoir/moving"
)

func TestP4_1CheckLine(t *testing.T) {
	for _, l := range [][]moving.Point{
		line(tent), line("0@0 10@0"), line("-1/3@0 -1/4@0"), line("0@0 1@-5 2@-5 3@7 4@0"), line("-5@0 0@340282366920938463463374607431768211455 1/340282366920938463463374607431768211455@0"),
		line("0@0 1@0 2@0 3@0"), longLine(api.MaxPoints), longLine(api.MaxPoints - 1),
	} {
		if e := moving.CheckLine(l); e != api.OK {
			t.Errorf("%s: error %d", lineText(l), e)
		}
	}
	for i, l := range wrongLines() {
		if e := moving.CheckLine(l); e != api.ErrArg {
			t.Errorf("wrong line %d: error %d", i, e)
		}
	}
}

func TestP4_1CheckVehicle(t *testing.T) {
	for _, v := range [][]moving.Axle{
		vehicle(truck), vehicle("0+0"), vehicle("1/3+0"), vehicle("0+0 0+0 0+0"), vehicle("10+340282366920938463463374607431768211455 10+1/1000 0+0"),
		longVehicle(api.MaxAxles), longVehicle(api.MaxAxles - 1),
	} {
		if e := moving.CheckVehicle(v); e != api.OK {
			t.Errorf("%s: error %d", vehicleText(v), e)
		}
	}
	for i, v := range wrongVehicles() {
		if e := moving.CheckVehicle(v); e != api.ErrArg {
			t.Errorf("wrong vehicle %d: error %d", i, e)
		}
	}
}

func TestP4_2Value(t *testing.T) {
	steps := "-3@0 -2@4 -1/2@-2 0@-2 5@1 10@0"
	for _, c := range []struct{ l, x, want string }{
		{tent, "2", "2/5"}, {tent, "11", "0"}, {tent, "-1", "0"}, {tent, "0", "0"}, {tent, "5", "1"}, {tent, "10", "0"}, {tent, "9", "1/5"},
		{tent, "1/340282366920938463463374607431768211455", "1/1701411834604692317316873037158841057275"}, {tent, "101/10", "0"},
		{steps, "-4", "0"}, {steps, "-3", "0"}, {steps, "-5/2", "2"}, {steps, "-2", "4"}, {steps, "-1", "0"}, {steps, "-1/2", "-2"}, {steps, "-1/4", "-2"},
		{steps, "0", "-2"}, {steps, "5/3", "-1"}, {steps, "10/3", "0"}, {steps, "7", "3/5"}, {steps, "9999999999", "0"},
		{"0@0 1/3@0", "1/4", "0"},
	} {
		if y, e := moving.Value(line(c.l), num(c.x)); e != api.OK || y.Text() != c.want {
			t.Errorf("%s at %s: %s, error %d, not %s", c.l, c.x, y.Text(), e, c.want)
		}
	}
	for i, l := range wrongLines() {
		if y, e := moving.Value(l, num("5")); e != api.ErrArg || y.Sign() != 0 {
			t.Errorf("wrong line %d: %s, error %d", i, y.Text(), e)
		}
	}
}

func TestP4_2ValueOfMany(t *testing.T) {
	r := rand.New(rand.NewSource(421))
	for range 200 {
		l := someLine(r, 2+r.Intn(8))
		for range 10 {
			x := someQ(r, -30, 50)
			if r.Intn(3) == 0 {
				x = l[r.Intn(len(l))].X
			}
			if y, e := moving.Value(l, x); e != api.OK || rat(y).Cmp(valueOf(l, rat(x))) != 0 {
				t.Fatalf("%s at %s: %s, error %d", lineText(l), x.Text(), y.Text(), e)
			}
		}
	}
}

func TestP4_2Effect(t *testing.T) {
	for _, c := range []struct{ l, v, t, want string }{
		{tent, truck, "5", "12"}, {tent, truck, "9", "12"}, {tent, truck, "0", "0"}, {tent, truck, "-1", "0"}, {tent, truck, "14", "0"}, {tent, truck, "15", "0"},
		{tent, truck, "13", "2"}, {tent, truck, "2", "4"}, {tent, truck, "7", "12"}, {tent, "3+0", "2", "6/5"}, {tent, "1+1 2+2 3+0", "6", "23/5"},
		{tent, "1+0 2+0 3+0", "4", "24/5"}, {tent, "0+5 1+0", "10", "1"}, {"0@0 5@-1 10@0", "1+5/2 1/2+0", "5", "-5/4"},
	} {
		if y, e := moving.Effect(line(c.l), vehicle(c.v), num(c.t)); e != api.OK || y.Text() != c.want {
			t.Errorf("%s on %s at %s: %s, error %d, not %s", c.v, c.l, c.t, y.Text(), e, c.want)
		}
	}
	wrongCalls(func(what string, l []moving.Point, v []moving.Axle, valid bool) {
		y, e := moving.Effect(l, v, num("5"))
		if valid && (e != api.OK || y.Text() != "12") || !valid && (e != api.ErrArg || y.Sign() != 0) {
			t.Errorf("%s: %s, error %d", what, y.Text(), e)
		}
	})
}

func TestP4_2EffectOfMany(t *testing.T) {
	r := rand.New(rand.NewSource(422))
	for range 200 {
		l, v := someLine(r, 2+r.Intn(8)), someVehicle(r, 1+r.Intn(5))
		for range 10 {
			x := someQ(r, -30, 60)
			if y, e := moving.Effect(l, v, x); e != api.OK || rat(y).Cmp(effectOf(l, v, rat(x))) != 0 {
				t.Fatalf("%s on %s at %s: %s, error %d", vehicleText(v), lineText(l), x.Text(), y.Text(), e)
			}
		}
	}
}

// checkExtremes checks the texts of extremes.
func checkExtremes(t *testing.T, l, v, least, leastAt, greatest, greatestAt string) {
	t.Helper()
	x, e := moving.Extremes(line(l), vehicle(v))
	if e != api.OK || x.Least.Text() != least || x.LeastAt.Text() != leastAt || x.Greatest.Text() != greatest || x.GreatestAt.Text() != greatestAt {
		t.Errorf("%s on %s: error %d, %s at %s, %s at %s", v, l, e, x.Least.Text(), x.LeastAt.Text(), x.Greatest.Text(), x.GreatestAt.Text())
	}
}

func TestP4_3Examples(t *testing.T) {
	checkExtremes(t, tent, truck, "0", "0", "12", "5")
	checkExtremes(t, "0@0 5@-1 10@0", truck, "-12", "5", "0", "0")
	checkExtremes(t, tent, "3+0", "0", "0", "3", "5")
	checkExtremes(t, tent, "1+100 2+0", "0", "0", "2", "105")
	checkExtremes(t, tent, "2+100 1+0", "0", "0", "2", "5")
	checkExtremes(t, "-3@0 -1@2 1@2 2@0", "1+0", "0", "-3", "2", "-1")
	checkExtremes(t, "-4@0 -2@1 0@-1 2@0", "2+2 2+0", "-2", "2", "2", "-2")
	checkExtremes(t, "-4@0 -2@1 0@-1 2@0", "1+2 2+0", "-2", "2", "1", "-2")
}

// TestP4_3Stops checks that all stops count, also those that no load makes, and
// those where nothing bends.
func TestP4_3Stops(t *testing.T) {
	checkExtremes(t, "-7/2@0 10@0", "0+0", "0", "-7/2", "0", "-7/2")
	checkExtremes(t, "-7/2@0 1@5 10@0", "0+3 0+0", "0", "-7/2", "0", "-7/2")
	checkExtremes(t, "0@0 1@0 2@-1 3@0", "1+0", "-1", "2", "0", "0")
	checkExtremes(t, "0@0 2@2 3@2 4@2 6@0", "1+0", "0", "0", "2", "2")
	checkExtremes(t, "0@0 2@2 3@2 4@2 6@0", "0+1/2 1+0", "0", "0", "2", "5/2")
	checkExtremes(t, "0@0 2@2 3@2 4@2 6@0", "1+1 1+0", "0", "0", "4", "3")
	// The effect is 2 from 1 to 3, where the axle without a load makes the first stop.
	checkExtremes(t, "0@0 1@2 3@2 4@0", "1+0 0+0", "0", "0", "2", "1")
	checkExtremes(t, "0@0 1@-1 2@0 3@-1 4@0", "5+0", "-5", "1", "0", "0")
}

func TestP4_3Errors(t *testing.T) {
	wrongCalls(func(what string, l []moving.Point, v []moving.Axle, valid bool) {
		x, e := moving.Extremes(l, v)
		empty := x.Least.Sign() == 0 && x.Greatest.Sign() == 0 && x.LeastAt.Sign() == 0 && x.GreatestAt.Sign() == 0
		if valid && (e != api.OK || empty) || !valid && (e != api.ErrArg || !empty) {
			t.Errorf("%s: %v, error %d", what, x, e)
		}
	})
}

// compareExtremes checks extremes by those that are computed as the chapter
// says it.
func compareExtremes(t *testing.T, l []moving.Point, v []moving.Axle) {
	t.Helper()
	effects, stops := extremesOf(l, v)
	x, e := moving.Extremes(l, v)
	sameEffects := effects.are(exact.Span{Low: x.Least, High: x.Greatest})
	if e != api.OK || !sameEffects || rat(x.LeastAt).Cmp(stops.low) != 0 || rat(x.GreatestAt).Cmp(stops.high) != 0 {
		t.Fatalf("%s on %s: error %d, %s at %s, %s at %s, not %s at %s", vehicleText(v), lineText(l), e,
			x.Least.Text(), x.LeastAt.Text(), x.Greatest.Text(), x.GreatestAt.Text(), effects.text(), stops.text())
	}
}

func TestP4_3Many(t *testing.T) {
	r := rand.New(rand.NewSource(43))
	for range 400 {
		compareExtremes(t, someLine(r, 2+r.Intn(8)), someVehicle(r, 1+r.Intn(5)))
	}
	compareExtremes(t, someLine(r, api.MaxPoints), someVehicle(r, api.MaxAxles))
	compareExtremes(t, longLine(api.MaxPoints), longVehicle(api.MaxAxles))
}

// TestP4_9Everywhere goes to positions that are no stops, between them and
// outside of them.
func TestP4_9Everywhere(t *testing.T) {
	r := rand.New(rand.NewSource(49))
	for range 200 {
		l, v := someLine(r, 2+r.Intn(6)), someVehicle(r, 1+r.Intn(4))
		x, e := moving.Extremes(l, v)
		if e != api.OK || x.Least.Sign() > 0 || x.Greatest.Sign() < 0 {
			t.Fatalf("%s on %s: error %d, %s to %s", vehicleText(v), lineText(l), e, x.Least.Text(), x.Greatest.Text())
		}
		for _, taken := range [][2]exact.Q{{x.LeastAt, x.Least}, {x.GreatestAt, x.Greatest}} {
			if y := effectOf(l, v, rat(taken[0])); y.Cmp(rat(taken[1])) != 0 {
				t.Fatalf("%s on %s: %s at %s", vehicleText(v), lineText(l), y, taken[0].Text())
			}
		}
		for _, at := range somePositions(r, l, v) {
			if y := effectOf(l, v, at); y.Cmp(rat(x.Least)) < 0 || y.Cmp(rat(x.Greatest)) > 0 {
				t.Fatalf("%s on %s: %s at %s is not from %s to %s", vehicleText(v), lineText(l), y, at, x.Least.Text(), x.Greatest.Text())
			}
		}
	}
}

// somePositions returns positions of a vehicle at random, on a line and around it.
func somePositions(r *rand.Rand, l []moving.Point, v []moving.Axle) []*big.Rat {
	from := rat(l[0].X)
	whole := plus(minus(rat(l[len(l)-1].X), from), lengthOf(v))
	var list []*big.Rat
	for range 12 {
		list = append(list, plus(from, times(whole, big.NewRat(int64(r.Intn(140)-20), 100))))
	}
	return list
}
