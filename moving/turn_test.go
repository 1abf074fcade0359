package moving_test

import (
	"math/rand"
	"testing"

	"voussoir/api"
	"voussoir/moving"
)

func TestP4_8Mirror(t *testing.T) {
	for _, c := range [][2]string{
		{tent, "-10@0 -5@1 0@0"}, {"0@0 10@0", "-10@0 0@0"}, {"-3@0 -1/2@4 0@-2 7@0", "-7@0 0@-2 1/2@4 3@0"}, {"-2@0 0@1 2@0", "-2@0 0@1 2@0"},
		{"1@0 2@1 3@2 4@3 5@0", "-5@0 -4@3 -3@2 -2@1 -1@0"},
	} {
		before := line(c[0])
		m, e := moving.Mirror(before)
		if e != api.OK || lineText(m) != c[1] {
			t.Errorf("%s: %s, error %d", c[0], lineText(m), e)
		}
		if lineText(before) != c[0] {
			t.Errorf("%s became %s", c[0], lineText(before))
		}
	}
	for i, l := range wrongLines() {
		if m, e := moving.Mirror(l); e != api.ErrArg || len(m) != 0 {
			t.Errorf("wrong line %d: %s, error %d", i, lineText(m), e)
		}
	}
}

func TestP4_8Turn(t *testing.T) {
	for _, c := range [][2]string{
		{truck, "10+4 10+0"}, {"7+0", "7+0"}, {"1+2 3+0", "3+2 1+0"}, {"1+2 3+4 5+0", "5+4 3+2 1+0"}, {"1+2 3+4 5+6 7+0", "7+6 5+4 3+2 1+0"}, {"0+1/2 2+0 3+0", "3+0 2+1/2 0+0"},
	} {
		before := vehicle(c[0])
		v, e := moving.Turn(before)
		if e != api.OK || vehicleText(v) != c[1] {
			t.Errorf("%s: %s, error %d", c[0], vehicleText(v), e)
		}
		if vehicleText(before) != c[0] {
			t.Errorf("%s became %s", c[0], vehicleText(before))
		}
	}
	for i, v := range wrongVehicles() {
		if turned, e := moving.Turn(v); e != api.ErrArg || len(turned) != 0 {
			t.Errorf("wrong vehicle %d: %s, error %d", i, vehicleText(turned), e)
		}
	}
}

// TestP4_8NewMemory checks that what is done to a result is not done to what it
// was made of, nor to another result.
func TestP4_8NewMemory(t *testing.T) {
	l, v := line("-1@0 0@1 1@0"), vehicle("3+0")
	m, _ := moving.Mirror(l)
	again, _ := moving.Mirror(l)
	m[1].Y, m[0].X = whole(9), whole(-9)
	if lineText(l) != "-1@0 0@1 1@0" || lineText(again) != "-1@0 0@1 1@0" {
		t.Errorf("%s and %s", lineText(l), lineText(again))
	}
	turned, _ := moving.Turn(v)
	others, _ := moving.Turn(v)
	turned[0].Load = whole(9)
	if vehicleText(v) != "3+0" || vehicleText(others) != "3+0" {
		t.Errorf("%s and %s", vehicleText(v), vehicleText(others))
	}
}

func TestP4_8ValuesAndBack(t *testing.T) {
	r := rand.New(rand.NewSource(48))
	for range 100 {
		l, v := someLine(r, 2+r.Intn(8)), someVehicle(r, 1+r.Intn(6))
		m, e := moving.Mirror(l)
		if e != api.OK {
			t.Fatal(e)
		}
		for range 10 {
			x := someQ(r, -40, 40)
			if y, e := moving.Value(m, x); e != api.OK || rat(y).Cmp(valueOf(l, rat(x.Neg()))) != 0 {
				t.Fatalf("%s mirrored at %s: %s, error %d", lineText(l), x.Text(), y.Text(), e)
			}
		}
		if back, e := moving.Mirror(m); e != api.OK || lineText(back) != lineText(l) {
			t.Fatalf("%s became %s, error %d", lineText(l), lineText(back), e)
		}
		turned, _ := moving.Turn(v)
		if back, e := moving.Turn(turned); e != api.OK || vehicleText(back) != vehicleText(v) {
			t.Fatalf("%s became %s, error %d", vehicleText(v), vehicleText(back), e)
		}
	}
}

func TestP4_12Direction(t *testing.T) {
	r := rand.New(rand.NewSource(412))
	for range 150 {
		l, v := someLine(r, 2+r.Intn(8)), someVehicle(r, 1+r.Intn(6))
		m, _ := moving.Mirror(l)
		turned, _ := moving.Turn(v)
		var length = whole(0)
		for _, a := range v {
			length = length.Plus(a.Gap)
		}
		for range 10 {
			at := someQ(r, -40, 60)
			there, e1 := moving.Effect(l, v, at.Plus(length))
			here, e2 := moving.Effect(m, turned, at.Neg())
			if e1 != api.OK || e2 != api.OK || here.Cmp(there) != 0 {
				t.Fatalf("%s on %s at %s: %s, turned %s, errors %d, %d", vehicleText(v), lineText(l), at.Text(), there.Text(), here.Text(), e1, e2)
			}
		}
		x, e1 := moving.Extremes(l, v)
		y, e2 := moving.Extremes(m, turned)
		if e1 != api.OK || e2 != api.OK || x.Least.Cmp(y.Least) != 0 || x.Greatest.Cmp(y.Greatest) != 0 {
			t.Fatalf("%s on %s: %v, turned %v", vehicleText(v), lineText(l), x, y)
		}
	}
}
