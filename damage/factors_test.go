package damage_test

import (
	"math/rand"
	"testing"

	"voussoir/api"
	"voussoir/damage"
	"voussoir/exact"
)

// checkFactors checks what Factors returns; "none" stands for no explanation.
func checkFactors(t *testing.T, w damage.Watch, want string) {
	t.Helper()
	factors, e := damage.Factors(w)
	if want == "none" {
		refused(t, "Factors", askFactors, w, api.ErrDisagree)
	} else if spanTexts(factors) != want || e != api.OK {
		t.Errorf("error %d, factors %s, not %s: %s", e, spanTexts(factors), want, watchText(w))
	}
}

func TestP6_4Example(t *testing.T) {
	w := example()
	checkFactors(t, w, "3/2..5/2")
	for reading, want := range map[string]string{
		"0 0 0 0 3": "1..3/2", "0 0 0 0 1": "none", "0 0 0 0 3/2": "1..1", "0 0 0 0 30": "19/2..10", "0 0 0 0 63/2": "10..10",
		"0 0 0 0 32": "none", "0 0 9999 100 6": "3/2..5/2", "0 0 0 0 -6": "none",
	} {
		w.Readings = readings(reading)
		checkFactors(t, w, want)
	}
	w.Readings = nil
	checkFactors(t, w, "1..10")
	w.Worst = []int{1}
	checkFactors(t, w, "1..1")
	checkFactors(t, damage.Watch{}, "")
}

// TestP6_4Sensors tries what sensors may do: an error, an offset, a drift, a
// reaction, and two readings of which each excludes something.
func TestP6_4Sensors(t *testing.T) {
	for _, c := range []struct{ sensor, first, second, want string }{
		{"move 2; 0; 0..0 0..0 0..0", "0 0 0 0 6", "0 0 5 5 6", "2..2"},
		{"move 2; 0; 0..0 0..0 0..0", "0 0 0 0 6", "0 0 5 5 7", "none"},
		{"strain 0; 0; 0..0 0..0 0..0", "0 0 0 0 6", "0 0 5 5 6", "2..2"},
		{"move 3; 0; 0..0 0..0 0..0", "0 0 0 0 0", "0 0 5 5 0", "1..10"},
		{"move 0; 1; 0..0 0..0 0..0", "0 0 0 0 1", "0 0 5 5 -1", "1..10"},
		{"move 0; 1; 0..0 0..0 0..0", "0 0 0 0 1", "0 0 5 5 -2", "none"},
		{"move 2; 1; 0..0 0..0 0..0", "0 0 0 0 6", "0 0 5 5 7", "2..7/3"},
		{"move 2; 0; -1..2 0..0 0..0", "0 0 0 0 6", "0 0 5 5 6", "4/3..7/3"},
		{"move 2; 0; 2..-1 0..0 0..0", "0 0 0 0 6", "0 0 5 5 6", "4/3..7/3"},
		{"move 2; 0; -1..2 0..0 0..0", "0 0 0 0 6", "0 0 5 5 7", "none"},
		{"move 2; 0; -1..2 1..2 0..0", "0 0 0 0 6", "0 0 1 0 15/2", "4/3..7/3"},
		{"move 2; 0; 0..0 1..2 0..0", "0 0 3 0 12", "0 0 3 0 12", "2..3"},
		{"move 2; 0; 0..0 1..2 0..0", "0 0 3 0 12", "0 0 6 0 15", "3..3"},
		{"move 2; 0; 0..0 1..2 0..0", "0 0 3 0 12", "0 0 6 0 14", "none"},
		{"move 2; 0; 0..0 0..0 -1..1", "0 0 0 2 12", "0 0 0 -3 12", "4..4"},
		{"move 2; 1; 0..0 0..0 -1..1", "0 0 0 2 12", "0 0 0 -3 12", "11/3..13/3"},
	} {
		w := example()
		w.Sensors, w.Readings = sensors(c.sensor), readings(c.first, c.second)
		checkFactors(t, w, c.want)
	}
}

func TestP6_4Hanging(t *testing.T) {
	w := hanging()
	w.Sensors = sensors("strain 1; 1/2; 0..0 0..0 0..0", "move 4; 0; 0..0 0..0 0..0", "move 5; 0; 0..0 0..0 0..0")
	for _, c := range []struct{ reading, want string }{
		{"0 0 0 0 -6", "1..10 11/6..13/6"},
		{"1 0 0 0 6", "4..7 1..4"},
		{"2 0 0 0 7", "7..7 1..4"},
		{"1 1 0 0 1", "4..4 1..4"},
		{"2 1 0 0 1", "3..3 1..4"},
		{"2 1 0 0 -1", "none"},
		{"0 1 0 0 1", "none"},
		{"0 1 0 0 -1/2", "1..10 1..4"},
	} {
		w.Readings = readings(c.reading)
		checkFactors(t, w, c.want)
	}
	w.Readings = readings("0 0 0 0 -6", "1 0 0 0 6")
	checkFactors(t, w, "35/6..37/6 11/6..13/6")
}

// TestP6_4NoBars checks that readings are asked for an explanation, too, where
// there is no factor to be told.
func TestP6_4NoBars(t *testing.T) {
	w := damage.Watch{Truss: api.Truss{Joints: []api.Joint{joint(0, 0, "xy")}}, Sensors: sensors("move 0; 1; 0..0 0..2 0..0"), Cases: [][]api.Push{pushed(5, 6)}}
	w.Readings = readings("0 0 0 0 1", "0 0 3 0 7")
	checkFactors(t, w, "")
	w.Readings = readings("0 0 0 0 1", "0 0 3 0 71/10")
	checkFactors(t, w, "none")
}

func TestP6_4FactorsOfMany(t *testing.T) {
	r := rand.New(rand.NewSource(64))
	both := [2]int{}
	for range 250 {
		w := someWatch(r, someSize(r, 5))
		want, ok := reachOf(w)
		both[boolInt(ok)]++
		if !ok {
			refused(t, "Factors", askFactors, w, api.ErrDisagree)
			continue
		}
		checkFactors(t, w, spanTexts(want))
	}
	if both[0] < 50 || both[1] < 100 {
		t.Error("too few of a kind", both)
	}
}

// foresee checks what Foresee returns.
func foresee(t *testing.T, w damage.Watch, pushes []api.Push, direction int, want string) {
	t.Helper()
	if s, e := damage.Foresee(w, pushes, direction); e != api.OK || spanText(s) != want {
		t.Errorf("pushes %v, direction %d: error %d, %s, not %s: %s", pushes, direction, e, spanText(s), want, watchText(w))
	}
}

func TestP6_4Foresee(t *testing.T) {
	w := example()
	foresee(t, w, pushed(0, 0, 6, 0), 2, "9/2..15/2")
	foresee(t, w, pushed(0, 0, -12, 7), 2, "-15..-9")
	foresee(t, w, pushed(9, 9, 0, 9), 2, "0..0")
	for _, held := range []int{0, 1, 3} {
		foresee(t, w, pushed(0, 0, 6, 0), held, "0..0")
	}
	w.Readings, w.Cases, w.Sensors = nil, nil, nil
	foresee(t, w, pushed(0, 0, 6, 0), 2, "3..30")
	w = hanging()
	w.Sensors = sensors("move 4; 0; 0..0 0..0 0..0")
	w.Readings = readings("0 0 0 0 6")
	foresee(t, w, pushed(0, 0, 0, 0, 12, 0), 4, "6..6") // the factors are from 4 to 7, and from 1 to 4
	foresee(t, w, pushed(0, 0, 0, 0, 12, 0), 5, "4..7")
	foresee(t, w, pushed(0, 0, 0, 0, 0, 3), 4, "1..7/4")
	foresee(t, w, pushed(0, 0, 0, 0, 0, 3), 5, "4/3..7/3")
	foresee(t, w, pushed(1, 2, 3, 4, -12, 3), 5, "-14/3..-8/3")
	foresee(t, damage.Watch{Truss: api.Truss{Joints: []api.Joint{joint(0, 0, "xy")}}}, pushed(5, 6), 1, "0..0")
}

func TestP6_4ForeseeErrors(t *testing.T) {
	disagree := example()
	disagree.Readings = readings("0 0 0 0 99")
	right := pushed(0, 0, 6, 0)
	for _, w := range []damage.Watch{example(), disagree} {
		for _, d := range append(extremes(), -1, 4, 100) {
			refused(t, "a direction", askForesee(right, d), w, api.ErrArg)
		}
		for _, n := range append(extremes(), -api.MaxPush-1, api.MaxPush+1) {
			refused(t, "a push", askForesee(pushed(n, 0, 6, 0), 2), w, api.ErrArg)
			refused(t, "a push", askForesee(pushed(0, 0, 6, n), 2), w, api.ErrArg)
		}
		for _, pushes := range [][]api.Push{nil, right[:1], append(right[:2:2], right...)} {
			refused(t, "pushes", askForesee(pushes, 2), w, api.ErrArg)
		}
		refused(t, "all", askForesee(nil, -1), w, api.ErrArg)
	}
	for d := range 4 {
		refused(t, "no explanation", askForesee(right, d), disagree, api.ErrDisagree)
	}
	refused(t, "nothing", askForesee(nil, 0), damage.Watch{}, api.ErrArg)
}

func TestP6_4ForeseeMany(t *testing.T) {
	r := rand.New(rand.NewSource(641))
	both := [2]int{}
	for range 200 {
		w := someWatch(r, someSize(r, 5))
		pushes, s := somePushes(r, w.Truss, 9), damage.Sensor{At: r.Intn(2 * len(w.Truss.Joints))}
		want, ok := reach(halves(w), formOf(w, s, pushes))
		both[boolInt(ok)]++
		if !ok {
			refused(t, "Foresee", askForesee(pushes, s.At), w, api.ErrDisagree)
			continue
		}
		foresee(t, w, pushes, s.At, spanText(want))
	}
	if both[0] < 30 || both[1] < 80 {
		t.Error("too few of a kind", both)
	}
}

// TestP6_4Great tries watches of the greatest size.
func TestP6_4Great(t *testing.T) {
	r := rand.New(rand.NewSource(642))
	for _, long := range []bool{false, true} {
		w := greatWatch(r, long).Watch
		rows := halves(w)
		factors, e := damage.Factors(w)
		if e != api.OK || len(factors) != api.MaxSensed {
			t.Fatalf("error %d, %s: %s", e, spanTexts(factors), watchText(w))
		}
		for _, i := range []int{0, api.MaxSensed - 1} {
			want, _ := reach(rows, unit(len(spansOf(w)), i))
			if spanText(factors[i]) != spanText(want) {
				t.Errorf("factor %d: %s, not %s: %s", i, spanText(factors[i]), spanText(want), watchText(w))
			}
		}
		pushes, s := somePushes(r, w.Truss, api.MaxPush), w.Sensors[1]
		want, _ := reach(rows, formOf(w, damage.Sensor{At: s.At}, pushes))
		foresee(t, w, pushes, s.At, spanText(want))
	}
}

// TestP6_4Ends checks that there is an explanation with each end of the spans,
// which is computed from the moves of the truss, and none beyond it.
func TestP6_4Ends(t *testing.T) {
	r := rand.New(rand.NewSource(643))
	for range 60 {
		x := someStructure(r, someSize(r, 3))
		factors, e := damage.Factors(x.Watch)
		if e != api.OK {
			t.Fatalf("error %d: %s", e, watchText(x.Watch))
		}
		for i, s := range factors {
			for k, end := range []exact.Q{s.Low, s.High} {
				goal := unit(len(x.truth), i)
				if k == 0 {
					goal = turned(goal)
				}
				_, point, _ := best(halves(x.Watch), goal)
				if point[i].Cmp(rat(end)) != 0 || !isExplanation(x.Watch, point) {
					t.Fatalf("factor %d, end %s, explained by %s: %s", i, end.Text(), texts(fromRats(point)), watchText(x.Watch))
				}
			}
		}
	}
}
