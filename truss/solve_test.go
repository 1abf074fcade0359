package truss_test

import (
	"math/big"
	"math/rand"
	"testing"

	"voussoir/api"
	"voussoir/exact"
	"voussoir/truss"
)

func TestP3_1Check(t *testing.T) {
	most, _ := greatest()
	example, _ := hanging()
	lonely, _ := alone()
	twice := copied(example)
	twice.Bars = append(twice.Bars, bar(0, 2, 1), bar(2, 0, 7), bar(0, 1, 1))
	weak := copied(example)
	weak.Bars[0].Tension, weak.Bars[1].Squash = 0, 0
	for i, s := range []api.Truss{
		{}, {Joints: []api.Joint{}, Bars: []api.Bar{}}, lonely, example, twice, weak, most,
	} {
		if e := truss.Check(s); e != api.OK {
			t.Errorf("valid truss %d: error %d", i, e)
		}
	}
	for i, s := range wrongTrusses() {
		if e := truss.Check(s); e != api.ErrArg {
			t.Errorf("wrong truss %d: error %d", i, e)
		}
	}
}

// checkDegrees checks what Degrees returns.
func checkDegrees(t *testing.T, what string, s api.Truss, spare, loose int) {
	t.Helper()
	a, b, e := truss.Degrees(s)
	if a != spare || b != loose || e != api.OK {
		t.Errorf("%s: %d, %d, error %d, not %d, %d", what, a, b, e, spare, loose)
	}
}

func TestP3_1Degrees(t *testing.T) {
	example, _ := hanging()
	checkDegrees(t, "example 1", example, 0, 0)
	lonely, _ := alone()
	checkDegrees(t, "example 4", lonely, 0, 1)
	checkDegrees(t, "nothing", api.Truss{}, 0, 0)
	example.Bars = append(example.Bars, bar(2, 0, 5), bar(0, 1, 1))
	checkDegrees(t, "a bar twice, and one between held joints", example, 2, 0)
	example.Bars = example.Bars[:1]
	checkDegrees(t, "one bar", example, 0, 1)
	line := api.Truss{
		Joints: []api.Joint{joint(-1, 0, "xy"), joint(1, 0, "xy"), joint(0, 0, "")},
		Bars:   []api.Bar{bar(0, 2, 1), bar(1, 2, 1)},
	}
	checkDegrees(t, "a joint on the line between two", line, 1, 1)
	line.Joints[2].FixX = true
	checkDegrees(t, "with bars that pull only where it is held", line, 2, 1)
	line.Bars = nil
	checkDegrees(t, "without bars", line, 0, 1)
	free := api.Truss{Joints: []api.Joint{joint(0, 0, ""), joint(1, 0, ""), joint(0, 1, "")}, Bars: []api.Bar{bar(0, 1, 1), bar(1, 2, 1), bar(2, 0, 1)}}
	checkDegrees(t, "a triangle that nothing holds", free, 0, 3)
	for i, s := range wrongTrusses() {
		if a, b, e := truss.Degrees(s); a != 0 || b != 0 || e != api.ErrArg {
			t.Errorf("wrong truss %d: %d, %d, error %d", i, a, b, e)
		}
	}
}

func TestP3_1DegreesOfMany(t *testing.T) {
	r := rand.New(rand.NewSource(31))
	for range 600 {
		s := someTruss(r)
		n := rank(pullTable(s))
		checkDegrees(t, "some truss", s, len(s.Bars)-n, len(freeOf(s))-n)
	}
}

// TestP3_1DegreesByTaking takes bars away, as the chapter says it: the pushes
// that can be carried stay the same just if their number of dimensions does.
func TestP3_1DegreesByTaking(t *testing.T) {
	r := rand.New(rand.NewSource(32))
	for range 60 {
		s := someTruss(r)
		if len(s.Bars) > 7 {
			s.Bars = s.Bars[:7]
		}
		all, most := rank(pullTable(s)), 0
		for set := range 1 << len(s.Bars) {
			some := api.Truss{Joints: s.Joints}
			for i, b := range s.Bars {
				if set>>i&1 == 1 {
					some.Bars = append(some.Bars, b)
				}
			}
			if rank(pullTable(some)) == all {
				most = max(most, len(s.Bars)-len(some.Bars))
			}
		}
		if spare, _, e := truss.Degrees(s); spare != most || e != api.OK {
			t.Errorf("%v: %d spare, error %d, not %d", s, spare, e, most)
		}
	}
}

// checkState checks the texts of a state.
func checkState(t *testing.T, s api.Truss, pushes []api.Push, moves, densities, holds string) {
	t.Helper()
	got, e := truss.Solve(s, pushes)
	if e != api.OK || text(got.Moves) != moves || text(got.Densities) != densities || text(got.Holds) != holds {
		t.Errorf("%v: error %d, moves %s, densities %s, holds %s", s, e, text(got.Moves), text(got.Densities), text(got.Holds))
	}
}

func TestP3_2Examples(t *testing.T) {
	s, pushes := hanging()
	checkState(t, s, pushes, "0 0 0 0 3/2 1", "3 -3", "0 -9 -12 9 0 0")
	s.Bars[0].Stiff = 2
	checkState(t, s, pushes, "0 0 0 0 9/8 1/2", "3 -3", "0 -9 -12 9 0 0")
	s.Bars[1].Stiff = 2
	checkState(t, s, pushes, "0 0 0 0 3/4 1/2", "3 -3", "0 -9 -12 9 0 0")
	checkState(t, s, pushed(7, -8, 0, 0, 0, 0), "0 0 0 0 0 0", "0 0", "-7 8 0 0 0 0")
	checkState(t, api.Truss{}, nil, "", "", "")
	checkState(t, api.Truss{Joints: []api.Joint{joint(3, 4, "xy")}}, pushed(5, -6), "0 0", "", "-5 6")
	held := api.Truss{Joints: []api.Joint{joint(0, 0, "xy"), joint(1, 1, "xy")}, Bars: []api.Bar{bar(0, 1, 9)}}
	checkState(t, held, pushed(1, 2, 3, 4), "0 0 0 0", "0", "-1 -2 -3 -4")
	roller := api.Truss{Joints: []api.Joint{joint(0, 0, "xy"), joint(1, 1, "y")}, Bars: []api.Bar{bar(1, 0, 2)}}
	checkState(t, roller, pushed(0, 0, 6, 0), "0 0 3 0", "6", "-6 -6 0 6")
	spare := api.Truss{Joints: []api.Joint{joint(0, 0, "xy"), joint(1, 0, "y"), joint(3, 0, "xy")}, Bars: []api.Bar{bar(0, 1, 4), bar(1, 2, 1), bar(2, 1, 1)}}
	checkState(t, spare, pushed(0, 0, 6, 0, 0, 0), "0 0 1/2 0 0 0", "2 -1 -1", "-2 0 0 0 -4 0")
}

func TestP3_2States(t *testing.T) {
	r := rand.New(rand.NewSource(33))
	for range 200 {
		s, pushes := rigid(r)
		got, e := truss.Solve(s, pushes)
		moves, densities := stateOf(s, stiffOf(s), pushes)
		if e != api.OK || !sameNumbers(got.Moves, moves) || !sameNumbers(got.Densities, densities) {
			t.Fatalf("%v, pushes %v: error %d, moves %s, densities %s", s, pushes, e, text(got.Moves), text(got.Densities))
		}
		holds := unit(len(moves), -1)
		for d := range holds {
			if heldIn(s, d) {
				holds[d].Neg(sumIn(s, pushes, fromInt(1), densities, d))
			}
		}
		if !sameNumbers(got.Holds, holds) {
			t.Fatalf("%v, pushes %v: holds %s", s, pushes, text(got.Holds))
		}
	}
}

// TestP3_2Greatest has the greatest numbers, and the longest ones on the way.
func TestP3_2Greatest(t *testing.T) {
	s, pushes := greatest()
	got, e := truss.Solve(s, pushes)
	moves, densities := stateOf(s, stiffOf(s), pushes)
	if e != api.OK || !sameNumbers(got.Moves, moves) || !sameNumbers(got.Densities, densities) {
		t.Errorf("error %d, moves %s, densities %s", e, text(got.Moves), text(got.Densities))
	}
}

// noState checks that a state is the zero value.
func noState(t *testing.T, what string, s truss.State) {
	t.Helper()
	if len(s.Moves)+len(s.Densities)+len(s.Holds) != 0 {
		t.Errorf("%s: a state with an error", what)
	}
}

func TestP3_2Errors(t *testing.T) {
	wrongCalls(func(what string, s api.Truss, pushes []api.Push, valid bool) {
		got, e := truss.Solve(s, pushes)
		if valid != (e == api.OK) || !valid && e != api.ErrArg {
			t.Errorf("%s: error %d", what, e)
		}
		if !valid {
			noState(t, what, got)
		}
	})
	s, pushes := alone()
	got, e := truss.Solve(s, pushes)
	if e != api.ErrMoves {
		t.Errorf("example 4: error %d", e)
	}
	noState(t, "example 4", got)
	if _, e := truss.Solve(s, pushed(0, 0)); e != api.ErrMoves {
		t.Errorf("without a push: error %d", e)
	}
	if _, e := truss.Solve(s, nil); e != api.ErrArg {
		t.Errorf("ErrArg comes first: error %d", e)
	}
	r := rand.New(rand.NewSource(34))
	for range 300 {
		s := someTruss(r)
		want := api.OK
		if rank(pullTable(s)) < len(freeOf(s)) {
			want = api.ErrMoves
		}
		if got, e := truss.Solve(s, somePushes(r, s)); e != want {
			t.Errorf("%v: error %d", s, e)
		} else if e != api.OK {
			noState(t, "a truss that can move", got)
		}
	}
}

func TestP3_3Examples(t *testing.T) {
	s, pushes := hanging()
	lonely, push := alone()
	for _, c := range []struct {
		s         api.Truss
		pushes    []api.Push
		densities string
		want      bool
	}{
		{s, pushes, "3 -3", true},
		{s, pushes, "3 -2", false},
		{s, pushes, "2 -3", false},
		{s, pushes, "-3 3", false},
		{s, pushes, "6 -6", false},
		{s, pushed(100, -7, 1, 2, 12, 0), "3 -3", true}, // what pushes do to held directions does not matter
		{s, pushed(0, 0, 0, 0, 12, 1), "3 -3", false},
		{s, pushed(0, 0, 0, 0, 0, 0), "0 0", true},
		{s, pushed(0, 0, 0, 0, 0, 0), "1/1000000000000000000000000 0", false},
		{s, pushed(0, 0, 0, 0, 1, 0), "1/4 -1/4", true},
		{lonely, push, "", false},
		{lonely, pushed(0, 1), "", true},
		{api.Truss{}, nil, "", true},
	} {
		if ok, e := truss.Carry(c.s, c.pushes, nums(t, c.densities)); ok != c.want || e != api.OK {
			t.Errorf("%v, pushes %v, densities %s: %v, error %d", c.s, c.pushes, c.densities, ok, e)
		}
	}
}

func TestP3_3Many(t *testing.T) {
	r := rand.New(rand.NewSource(35))
	for range 200 {
		s, pushes := rigid(r)
		state, e := truss.Solve(s, pushes)
		if e != api.OK {
			t.Fatal(e)
		}
		if ok, e := truss.Carry(s, pushes, state.Densities); !ok || e != api.OK {
			t.Errorf("%v, pushes %v: the densities of the state: %v, error %d", s, pushes, ok, e)
		}
		for i := range state.Densities {
			state.Densities[i] = state.Densities[i].Plus(someQ(r))
			want := carries(s, pushes, fromInt(1), rats(state.Densities))
			if ok, e := truss.Carry(s, pushes, state.Densities); ok != want || e != api.OK {
				t.Errorf("%v, pushes %v, densities %s: %v, error %d", s, pushes, text(state.Densities), ok, e)
			}
		}
	}
}

func TestP3_3Errors(t *testing.T) {
	wrongCalls(func(what string, s api.Truss, pushes []api.Push, valid bool) {
		ok, e := truss.Carry(s, pushes, make([]exact.Q, len(s.Bars)))
		if ok || valid != (e == api.OK) || !valid && e != api.ErrArg {
			t.Errorf("%s: %v, error %d", what, ok, e)
		}
	})
	s, pushes := hanging()
	for _, list := range []string{"", "3", "3 -3 0", "3 -3 0 0 0 0"} {
		if ok, e := truss.Carry(s, pushes, nums(t, list)); ok || e != api.ErrArg {
			t.Errorf("densities %s: %v, error %d", list, ok, e)
		}
	}
}

// sumOf returns the sum of two lists, each times a factor.
func sumOf(a int, x []exact.Q, b int, y []exact.Q) []*big.Rat {
	var list []*big.Rat
	for i := range x {
		list = append(list, plus(times(fromInt(a), rat(x[i])), times(fromInt(b), rat(y[i]))))
	}
	return list
}

// checkEquilibrium checks the sums of pushes and holds, and of their moments.
func checkEquilibrium(t *testing.T, s api.Truss, pushes []api.Push, holds []exact.Q) {
	t.Helper()
	x, y, moment := new(big.Rat), new(big.Rat), new(big.Rat)
	for i, j := range s.Joints {
		px, py := plus(fromInt(pushes[i].X), rat(holds[2*i])), plus(fromInt(pushes[i].Y), rat(holds[2*i+1]))
		x.Add(x, px)
		y.Add(y, py)
		moment.Add(moment, minus(times(fromInt(j.X), py), times(fromInt(j.Y), px)))
	}
	if x.Sign() != 0 || y.Sign() != 0 || moment.Sign() != 0 {
		t.Errorf("%v, pushes %v: the sums are %s, %s, and that of moments %s", s, pushes, x, y, moment)
	}
}

// checkWork checks the work of pushes.
func checkWork(t *testing.T, s api.Truss, pushes []api.Push, state truss.State) {
	t.Helper()
	moves, inside := rats(state.Moves), new(big.Rat)
	for i, b := range s.Bars {
		inside.Add(inside, times(rat(state.Densities[i]), stretchOf(s, b, moves)))
	}
	some := 0
	for _, d := range freeOf(s) {
		some |= pushIn(pushes, d).Sign() * pushIn(pushes, d).Sign()
	}
	if work := workOf(pushes, moves); work.Cmp(inside) != 0 || work.Sign() != some {
		t.Errorf("%v, pushes %v: the work is %s, and inside %s", s, pushes, work, inside)
	}
}

func TestP3_7Equilibrium(t *testing.T) {
	r := rand.New(rand.NewSource(37))
	for range 150 {
		s, first := rigid(r)
		second := somePushes(r, s)
		both := make([]api.Push, len(first))
		for i := range both {
			first[i] = api.Push{X: first[i].X / 4, Y: first[i].Y / 4}
			second[i] = api.Push{X: second[i].X / 4, Y: second[i].Y / 4}
			both[i] = api.Push{X: 2*first[i].X - second[i].X, Y: 2*first[i].Y - second[i].Y}
		}
		a, e1 := truss.Solve(s, first)
		b, e2 := truss.Solve(s, second)
		c, e3 := truss.Solve(s, both)
		if e1 != api.OK || e2 != api.OK || e3 != api.OK {
			t.Fatal(e1, e2, e3)
		}
		checkEquilibrium(t, s, first, a.Holds)
		checkWork(t, s, first, a)
		checkWork(t, s, both, c)
		if !sameNumbers(c.Moves, sumOf(2, a.Moves, -1, b.Moves)) || !sameNumbers(c.Densities, sumOf(2, a.Densities, -1, b.Densities)) || !sameNumbers(c.Holds, sumOf(2, a.Holds, -1, b.Holds)) {
			t.Errorf("%v: the state of %v is not the sum of those of its parts", s, both)
		}
		if workOf(first, rats(b.Moves)).Cmp(workOf(second, rats(a.Moves))) != 0 {
			t.Errorf("%v: what %v and %v do on each other's moves is not the same", s, first, second)
		}
	}
}

func TestP3_8Stiffer(t *testing.T) {
	r := rand.New(rand.NewSource(38))
	for range 150 {
		s, pushes := rigid(r)
		stiffer := copied(s)
		for i, high := range someHigh(r, s, r.Intn(api.MaxBars)) {
			stiffer.Bars[i].Stiff = high
		}
		a, e1 := truss.Solve(s, pushes)
		b, e2 := truss.Solve(stiffer, pushes)
		if e1 != api.OK || e2 != api.OK {
			t.Fatal(e1, e2)
		}
		if workOf(pushes, rats(b.Moves)).Cmp(workOf(pushes, rats(a.Moves))) > 0 {
			t.Errorf("%v, pushes %v: more work with the stiffer %v", s, pushes, stiffer.Bars)
		}
	}
}
