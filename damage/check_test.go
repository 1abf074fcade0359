package damage_test

import (
	"math/big"
	"math/rand"
	"slices"
	"testing"

	"voussoir/api"
	"voussoir/damage"
)

// extremes returns integers that are outside of all ranges.
func extremes() []int { return []int{-1 << 63, 1<<63 - 1, -1 << 32, 1 << 32, -1 << 31, 1 << 31} }

// changed returns watches, each of them hanging after one change.
func changed(changes ...func(w *damage.Watch)) []damage.Watch {
	var list []damage.Watch
	for _, change := range changes {
		w := hanging()
		change(&w)
		list = append(list, w)
	}
	return list
}

// wrongTrusses returns watches that are not valid because of the truss.
func wrongTrusses() []damage.Watch {
	list := changed(
		func(w *damage.Watch) { w.Truss.Joints[1].X = 0 },
		func(w *damage.Watch) { w.Truss.Joints[2].Y = api.MaxPlace + 1 },
		func(w *damage.Watch) { w.Truss.Joints = w.Truss.Joints[:2] },
		func(w *damage.Watch) { w.Truss.Joints = nil },
		func(w *damage.Watch) { w.Truss.Bars[0].B = 0 },
		func(w *damage.Watch) { w.Truss.Bars[1].A = 3 },
		func(w *damage.Watch) { w.Truss.Bars[1].Stiff = 0 },
		func(w *damage.Watch) { w.Truss.Bars[1].Tension = -1 },
		func(w *damage.Watch) { w.Truss.Bars = nil },
		func(w *damage.Watch) { w.Truss.Bars = append(w.Truss.Bars, bar(0, 2, 1)) },
	)
	for _, w := range list { // without cases, only the truss itself is wrong
		w.Cases, w.Sensors, w.Readings = nil, nil, nil
		list = append(list, w)
	}
	ten := fullWatch()
	ten.Truss = fan(5)
	ten.Worst, ten.Cases, ten.Readings = slices.Repeat([]int{3}, 10), nil, nil
	nine := ten
	nine.Truss.Joints = slices.Clone(ten.Truss.Joints)
	nine.Truss.Joints[6].FixY = true
	nine.Truss.Bars, nine.Worst = ten.Truss.Bars[:9], ten.Worst[:9]
	many := ten
	many.Truss = fan(4)
	many.Truss.Bars = append(many.Truss.Bars, many.Truss.Bars...)
	many.Worst = slices.Repeat([]int{1}, api.MaxBars)
	return append(list, ten, nine, many)
}

// wrongNumbers returns watches that are not valid because of Worst, or of cases.
func wrongNumbers() []damage.Watch {
	list := changed(
		func(w *damage.Watch) { w.Worst = nil },
		func(w *damage.Watch) { w.Worst = []int{1} },
		func(w *damage.Watch) { w.Worst = []int{1, 2, 3} },
		func(w *damage.Watch) { w.Worst = make([]int, 1000) },
		func(w *damage.Watch) { w.Cases[0] = nil },
		func(w *damage.Watch) { w.Truss.Joints = append(w.Truss.Joints, joint(9, 9, "xy")) },
		func(w *damage.Watch) { w.Cases[1] = w.Cases[1][:2] },
		func(w *damage.Watch) { w.Cases[0] = pushed(0, 0, 0, 0, 12, 0, 0, 0) },
		func(w *damage.Watch) { w.Cases = nil },
		func(w *damage.Watch) { w.Cases = w.Cases[:1] },
		func(w *damage.Watch) { w.Cases = append(w.Cases, nil) },
		func(w *damage.Watch) { w.Cases = slices.Repeat(w.Cases[:1], api.MaxCases+1) },
		func(w *damage.Watch) { w.Cases = slices.Repeat(w.Cases, 100) },
	)
	for _, n := range append(extremes(), 0, -1, api.MaxWorst+1) {
		list = append(list, changed(func(w *damage.Watch) { w.Worst[0] = n }, func(w *damage.Watch) { w.Worst[1] = n })...)
	}
	for _, n := range append(extremes(), -api.MaxPush-1, api.MaxPush+1) {
		list = append(list, changed(func(w *damage.Watch) { w.Cases[0][2].X = n }, func(w *damage.Watch) { w.Cases[1][0].Y = n })...)
	}
	return list
}

// wrongSensors returns watches that are not valid because of sensors or readings.
func wrongSensors() []damage.Watch {
	list := changed(
		func(w *damage.Watch) { w.Sensors = slices.Repeat(w.Sensors[:1], api.MaxSensors+1) },
		func(w *damage.Watch) { w.Sensors = slices.Repeat(w.Sensors, 100) },
		func(w *damage.Watch) { w.Sensors = nil },
		func(w *damage.Watch) { w.Sensors = w.Sensors[:1] },
		func(w *damage.Watch) { w.Sensors[0].Error = num("-1/1000") },
		func(w *damage.Watch) { w.Sensors[1].Error = num("-340282366920938463463374607431768211456") },
		func(w *damage.Watch) { w.Sensors[1].Strain = true },
		func(w *damage.Watch) { w.Readings = slices.Repeat(w.Readings[:1], api.MaxReadings+1) },
		func(w *damage.Watch) { w.Readings = slices.Repeat(w.Readings, 100) },
		func(w *damage.Watch) { w.Readings[0].Degrees = -api.MaxDegrees - 1 },
		func(w *damage.Watch) { w.Readings[2].Degrees = api.MaxDegrees + 1 },
		func(w *damage.Watch) { w.Readings[1].Day = api.MaxDay + 1 },
	)
	for _, n := range append(extremes(), -1, 2) {
		list = append(list, changed(
			func(w *damage.Watch) { w.Sensors[0].At = n },
			func(w *damage.Watch) { w.Readings[0].Sensor = n },
			func(w *damage.Watch) { w.Readings[1].Case = n })...)
	}
	for _, n := range append(extremes(), -1, 6) {
		list = append(list, changed(func(w *damage.Watch) { w.Sensors[1].At = n })...)
	}
	for _, n := range append(extremes(), -1) {
		list = append(list, changed(func(w *damage.Watch) { w.Readings[2].Day = n })...)
	}
	for _, n := range extremes() {
		list = append(list, changed(func(w *damage.Watch) { w.Readings[2].Degrees = n })...)
	}
	return list
}

// loose returns watches of trusses that can move; bars of some are spare too.
func loose() []damage.Watch {
	nothing := damage.Watch{Truss: api.Truss{Joints: []api.Joint{joint(0, 0, "y")}}}
	list := changed(
		func(w *damage.Watch) { w.Truss.Joints[0].FixX = false },
		func(w *damage.Watch) { w.Truss.Joints[1] = joint(0, 8, "xy") },
		func(w *damage.Watch) { w.Truss.Bars[1] = bar(2, 0, 3) },
		func(w *damage.Watch) { w.Truss.Bars[0], w.Truss.Bars[1] = bar(0, 1, 2), bar(0, 1, 3) },
		func(w *damage.Watch) { w.Truss.Joints[1].FixX, w.Truss.Joints[1].FixY = false, false },
	)
	return append(list, nothing)
}

// spare returns watches of trusses that can not move, of which bars are spare.
func spare() []damage.Watch {
	again := func(b api.Bar) func(w *damage.Watch) {
		return func(w *damage.Watch) { w.Truss.Bars, w.Worst = append(w.Truss.Bars, b), append(w.Worst, 1) }
	}
	return changed(again(bar(0, 2, 1)), again(bar(0, 1, 1)), again(bar(1, 2, 4)),
		func(w *damage.Watch) { w.Truss.Joints[2].FixX = true },
		func(w *damage.Watch) { w.Truss.Joints[2] = joint(0, 3, "xy") },
	)
}

func TestP6_1Valid(t *testing.T) {
	held := damage.Watch{Truss: api.Truss{Joints: []api.Joint{joint(0, 0, "xy")}}, Sensors: sensors("move 1; 0; 0..0 0..0 0..0"), Cases: [][]api.Push{pushed(1, 2)}}
	list := append(changed(
		func(w *damage.Watch) {},
		func(w *damage.Watch) { w.Worst = []int{1, api.MaxWorst} },
		func(w *damage.Watch) { w.Readings = nil },
		func(w *damage.Watch) { w.Readings, w.Cases = nil, nil },
		func(w *damage.Watch) { w.Readings, w.Sensors = nil, nil },
		func(w *damage.Watch) { w.Sensors[0].Offset, w.Sensors[1].Warm = span("3..-4"), span("1/2..1/3") },
		func(w *damage.Watch) { w.Sensors[1].At = 0 },
		func(w *damage.Watch) { w.Sensors[1].At = 5 },
		func(w *damage.Watch) { w.Sensors[0].At = 0 },
		func(w *damage.Watch) { w.Truss.Bars[0].Tension, w.Truss.Bars[0].Squash = 5, api.MaxBear },
		func(w *damage.Watch) { w.Cases[0] = pushed(0, 0, 0, 0, api.MaxPush, -api.MaxPush) },
		func(w *damage.Watch) { w.Readings[0].Day, w.Readings[0].Degrees = api.MaxDay, api.MaxDegrees },
		func(w *damage.Watch) { w.Readings[0].Day, w.Readings[0].Degrees = 0, -api.MaxDegrees },
		func(w *damage.Watch) { w.Readings[0].Value = num("-1000000000000000000000000000000/7") },
	), example(), fullWatch(), damage.Watch{}, held)
	for i, w := range list {
		if e := damage.Check(w); e != api.OK {
			t.Errorf("watch %d: error %d: %s", i, e, watchText(w))
		}
	}
}

// TestP6_1Errors checks Check, and that every other function returns its error,
// and nothing else, whatever is wrong besides.
func TestP6_1Errors(t *testing.T) {
	list := askers()
	list["Explains by too few"] = askExplains(nil)
	list["Foresee without pushes"] = askForesee(nil, 2)
	list["Foresee in no direction"] = askForesee(pushed(0, 0, 6, 0), -1)
	list["Exclude of no bar"] = askExclude(-1, num("3"))
	list["Excludes of no bar"] = askExcludes(100, num("3"), nil)
	for name, ask := range list {
		for _, w := range slices.Concat(wrongTrusses(), wrongNumbers(), wrongSensors()) {
			refused(t, name, ask, w, api.ErrArg)
		}
		for _, w := range loose() {
			refused(t, name, ask, w, api.ErrMoves)
		}
		for _, w := range spare() {
			refused(t, name, ask, w, api.ErrSpare)
		}
	}
}

// TestP6_1Order checks that a watch that is not valid is refused first.
func TestP6_1Order(t *testing.T) {
	for _, w := range append(loose(), spare()...) {
		w.Worst = append(slices.Clone(w.Worst), 1)
		refused(t, "Check", askers()["Check"], w, api.ErrArg)
	}
	for _, w := range append(loose(), spare()...) {
		w.Readings = append(w.Readings, damage.Reading{Day: -1})
		refused(t, "Check", askers()["Check"], w, api.ErrArg)
	}
}

// TestP6_1Many compares Check with what math/big says of trusses: one that can
// move has no only move, and of one that can not, all bars but as many as there
// are free directions are spare.
func TestP6_1Many(t *testing.T) {
	r := rand.New(rand.NewSource(61))
	count := map[api.Errno]int{}
	for range 400 {
		w := damage.Watch{Truss: someTruss(r, r.Intn(6), 3, 5)}
		for range r.Intn(3) {
			switch n := r.Intn(len(w.Truss.Joints)); r.Intn(3) {
			case 0:
				w.Truss.Joints[n].FixX = !w.Truss.Joints[n].FixX
			case 1:
				w.Truss.Joints[n].FixY = !w.Truss.Joints[n].FixY
			case 2:
				w.Truss.Bars = append(w.Truss.Bars, bar(n, (n+1)%len(w.Truss.Joints), 2))
			}
		}
		w.Worst = slices.Repeat([]int{2}, len(w.Truss.Bars))
		want := api.OK
		sound := stiffnesses(w.Truss, slices.Repeat([]*big.Rat{fromInt(1)}, len(w.Truss.Bars)))
		if movesOf(w.Truss, sound, make([]api.Push, len(w.Truss.Joints))) == nil {
			want = api.ErrMoves
		} else if len(w.Truss.Bars) > len(freeOf(w.Truss)) {
			want = api.ErrSpare
		}
		if e := damage.Check(w); e != want {
			t.Fatalf("error %d, not %d: %s", e, want, watchText(w))
		}
		count[want]++
	}
	if count[api.OK] < 50 || count[api.ErrMoves] < 50 || count[api.ErrSpare] < 50 {
		t.Error("too few of a kind", count)
	}
}
