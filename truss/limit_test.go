package truss_test

import (
	"math/big"
	"math/rand"
	"testing"

	"voussoir/api"
	"voussoir/exact"
	"voussoir/truss"
)

// limitOf returns a limit, and checks that it is proved from both sides.
func limitOf(t *testing.T, s api.Truss, pushes []api.Push) exact.Q {
	t.Helper()
	f, q, u, e := truss.Limit(s, pushes)
	if e != api.OK || len(q) != len(s.Bars) || len(u) != 2*len(s.Joints) {
		t.Fatalf("%v, pushes %v: error %d, %d densities, %d moves", s, pushes, e, len(q), len(u))
	}
	if !stands(s, pushes, rat(f), rats(q)) || !breaks(s, pushes, rat(f), rats(u)) {
		t.Errorf("%v, pushes %v: %s is not proved by densities %s, moves %s", s, pushes, f.Text(), text(q), text(u))
	}
	up, e1 := truss.Stands(s, pushes, f, q)
	down, e2 := truss.Breaks(s, pushes, f, u)
	if !up || !down || e1 != api.OK || e2 != api.OK {
		t.Errorf("%v, pushes %v: Stands %v, error %d, Breaks %v, error %d", s, pushes, up, e1, down, e2)
	}
	return f
}

func TestP3_5Examples(t *testing.T) {
	s, pushes := hanging()
	lonely, push := alone()
	strong := copied(s)
	strong.Bars[1].Squash = 11
	brittle := copied(s)
	brittle.Bars[1].Squash = 0
	beside := copied(s)
	beside.Bars = append(beside.Bars, bar(1, 2, 1), bar(2, 0, 1))
	line := api.Truss{
		Joints: []api.Joint{joint(-1, 0, "xy"), joint(1, 0, "xy"), joint(0, 0, "")},
		Bars:   []api.Bar{bar(0, 2, 1), bar(1, 2, 1)},
	}
	for _, c := range []struct {
		s      api.Truss
		pushes []api.Push
		want   string
	}{
		{s, pushes, "5/3"},
		{s, pushed(9, 9, -9, -9, 12, 0), "5/3"},
		{s, pushed(0, 0, 0, 0, -12, 0), "5/3"},
		{strong, pushes, "2"},
		{strong, pushed(0, 0, 0, 0, -12, 0), "5/3"},
		{brittle, pushes, "0"},
		{brittle, pushed(0, 0, 0, 0, -12, 0), "5/3"},
		{beside, pushes, "10/3"},
		{lonely, push, "0"},
		{line, pushed(0, 0, 0, 0, 11, 0), "1"}, // it can move, but not that way
		{line, pushed(0, 0, 0, 0, -3, 0), "11/3"},
		{line, pushed(0, 0, 0, 0, 0, 1), "0"},
		{line, pushed(0, 0, 0, 0, 11, 1), "0"},
	} {
		if f := limitOf(t, c.s, c.pushes); f.Text() != c.want {
			t.Errorf("%v, pushes %v: %s, not %s", c.s, c.pushes, f.Text(), c.want)
		}
	}
}

// isIdle reports whether all pushes in free directions are 0.
func isIdle(s api.Truss, pushes []api.Push) bool {
	for _, d := range freeOf(s) {
		if pushIn(pushes, d).Sign() != 0 {
			return false
		}
	}
	return true
}

func TestP3_5Many(t *testing.T) {
	r := rand.New(rand.NewSource(51))
	for range 200 {
		s := someTruss(r)
		if pushes := somePushes(r, s); !isIdle(s, pushes) {
			limitOf(t, s, pushes)
		}
	}
	s, pushes := greatest()
	limitOf(t, s, pushes)
}

// noLimit checks that a limit is refused with an error.
func noLimit(t *testing.T, what string, s api.Truss, pushes []api.Push, want api.Errno) {
	t.Helper()
	f, q, u, e := truss.Limit(s, pushes)
	if e != want || f.Sign() != 0 || len(q)+len(u) != 0 {
		t.Errorf("%s: error %d, not %d; %s, %d densities, %d moves", what, e, want, f.Text(), len(q), len(u))
	}
}

func TestP3_5Errors(t *testing.T) {
	wrongCalls(func(what string, s api.Truss, pushes []api.Push, valid bool) {
		if !valid {
			noLimit(t, what, s, pushes, api.ErrArg)
		} else if _, _, _, e := truss.Limit(s, pushes); e != api.OK {
			t.Errorf("%s: error %d", what, e)
		}
	})
	s, _ := hanging()
	noLimit(t, "no push", s, pushed(0, 0, 0, 0, 0, 0), api.ErrIdle)
	noLimit(t, "pushes in held directions", s, pushed(1, 2, 3, 4, 0, 0), api.ErrIdle)
	noLimit(t, "ErrArg comes first", s, pushed(0, 0, 0, 0), api.ErrArg)
	noLimit(t, "nothing", api.Truss{}, nil, api.ErrIdle)
	lonely, _ := alone()
	noLimit(t, "a truss that can move", lonely, pushed(0, 7), api.ErrIdle)
	s.Bars[0].B = 9
	noLimit(t, "a wrong truss without a push", s, pushed(0, 0, 0, 0, 0, 0), api.ErrArg)
}

func TestP3_6Stands(t *testing.T) {
	s, pushes := hanging()
	for _, c := range []struct {
		factor, densities string
		want              bool
	}{
		{"5/3", "5 -5", true},
		{"2", "6 -6", false},
		{"-5/3", "-5 5", true},
		{"-2", "-6 6", false},
		{"1", "3 -3", true},
		{"0", "0 0", true},
		{"1", "5 -5", false},
		{"5/3", "5 -4", false},
		{"1/3000000000000000000000000", "1/1000000000000000000000000 -1/1000000000000000000000000", true},
		{"1/3", "1/1000000000000000000000000 -1/1000000000000000000000000", false},
	} {
		if ok, e := truss.Stands(s, pushes, num(t, c.factor), nums(t, c.densities)); ok != c.want || e != api.OK {
			t.Errorf("factor %s, densities %s: %v, error %d", c.factor, c.densities, ok, e)
		}
	}
	idle := pushed(1, 2, 3, 4, 0, 0)
	for _, factor := range []string{"0", "7", "-1/2"} {
		if ok, e := truss.Stands(s, idle, num(t, factor), nums(t, "0 0")); !ok || e != api.OK {
			t.Errorf("factor %s of pushes in held directions: %v, error %d", factor, ok, e)
		}
	}
	s.Bars[0].Tension, s.Bars[1].Squash = 5, 6
	for densities, want := range map[string]bool{"5 -5": true, "6 -6": false} {
		f := rat(num(t, densities[:1]))
		if ok, e := truss.Stands(s, pushes, num(t, f.Quo(f, fromInt(3)).RatString()), nums(t, densities)); ok != want || e != api.OK {
			t.Errorf("densities %s: %v, error %d", densities, ok, e)
		}
	}
}

func TestP3_6Breaks(t *testing.T) {
	s, pushes := hanging()
	for _, c := range []struct {
		factor, moves string
		want          bool
	}{
		{"5/3", "0 0 0 0 1/12 0", true},
		{"2", "0 0 0 0 1/12 0", true},
		{"8/5", "0 0 0 0 1/12 0", false},
		{"5/3", "0 0 0 0 1/6 0", false},
		{"100", "0 0 0 0 1/6 0", false},
		{"100", "0 0 0 0 0 0", false},
		{"100", "0 0 0 0 -1/12 0", false},
		{"100", "1 0 0 0 1/12 0", false},
		{"100", "0 0 0 -1/12 1/12 0", false},
		{"2", "0 0 0 0 1/12 1/9", true}, // the stretches are 1/3 and 0
		{"2", "0 0 0 0 1/12 -1/9", false},
		{"5", "0 0 0 0 1/12 -1/9", true}, // the stretches are -1/3 and -2/3
		{"4", "0 0 0 0 1/12 2/9", false},
		{"6", "0 0 0 0 1/12 2/9", true}, // the stretches are 2/3 and 1/3
	} {
		if ok, e := truss.Breaks(s, pushes, num(t, c.factor), nums(t, c.moves)); ok != c.want || e != api.OK {
			t.Errorf("factor %s, moves %s: %v, error %d", c.factor, c.moves, ok, e)
		}
	}
	// A push in a held direction does no work, whatever number stands there.
	if ok, e := truss.Breaks(s, pushed(1, 0, 0, 0, 0, 0), exact.Int(100), nums(t, "1 0 0 0 0 0")); ok || e != api.OK {
		t.Errorf("a move in a held direction: %v, error %d", ok, e)
	}
}

func TestP3_6Many(t *testing.T) {
	r := rand.New(rand.NewSource(61))
	counts := map[bool]int{}
	for range 400 {
		s := someTruss(r)
		pushes := somePushes(r, s)
		densities, moves, factor := make([]exact.Q, len(s.Bars)), make([]exact.Q, 2*len(s.Joints)), someQ(r)
		if f, q, u, e := truss.Limit(s, pushes); e == api.OK {
			densities, moves, factor = q, u, f
		}
		for n := range 5 {
			want := stands(s, pushes, rat(factor), rats(densities))
			if ok, e := truss.Stands(s, pushes, factor, densities); ok != want || e != api.OK {
				t.Errorf("%v, pushes %v: factor %s, densities %s: Stands %v, error %d", s, pushes, factor.Text(), text(densities), ok, e)
			}
			wantBreaks := breaks(s, pushes, rat(factor), rats(moves))
			if ok, e := truss.Breaks(s, pushes, factor, moves); ok != wantBreaks || e != api.OK {
				t.Errorf("%v, pushes %v: factor %s, moves %s: Breaks %v, error %d", s, pushes, factor.Text(), text(moves), ok, e)
			}
			counts[want]++
			counts[wantBreaks]++
			switch {
			case n == 0:
				factor = factor.Plus(someQ(r).Abs())
			case n == 1:
				factor = factor.Minus(someQ(r).Abs())
			case len(densities) > 0 && len(moves) > 0:
				densities[r.Intn(len(densities))] = someQ(r)
				moves[r.Intn(len(moves))] = someQ(r)
			}
		}
	}
	if counts[true] < 100 || counts[false] < 100 {
		t.Errorf("too few of one kind: %v", counts)
	}
}

func TestP3_6Errors(t *testing.T) {
	wrongCalls(func(what string, s api.Truss, pushes []api.Push, valid bool) {
		ok, e := truss.Stands(s, pushes, exact.Int(0), make([]exact.Q, len(s.Bars)))
		if ok != valid || valid != (e == api.OK) || !valid && e != api.ErrArg {
			t.Errorf("Stands of %s: %v, error %d", what, ok, e)
		}
		ok, e = truss.Breaks(s, pushes, exact.Int(0), make([]exact.Q, 2*len(s.Joints)))
		if ok || valid != (e == api.OK) || !valid && e != api.ErrArg {
			t.Errorf("Breaks of %s: %v, error %d", what, ok, e)
		}
	})
	s, pushes := hanging()
	for n := range 9 {
		if ok, e := truss.Stands(s, pushes, exact.Int(0), make([]exact.Q, n)); n != 2 && (ok || e != api.ErrArg) {
			t.Errorf("Stands of %d densities: %v, error %d", n, ok, e)
		}
		moves := make([]exact.Q, n)
		if n > 4 {
			moves[4] = num(t, "1/12")
		}
		if ok, e := truss.Breaks(s, pushes, exact.Int(9), moves); ok != (n == 6) || n != 6 && e != api.ErrArg {
			t.Errorf("Breaks of %d moves: %v, error %d", n, ok, e)
		}
	}
}

// someMove returns a move at random on which pushes do the work 1, if they do any.
func someMove(r *rand.Rand, s api.Truss, pushes []api.Push) ([]exact.Q, bool) {
	moves := make([]exact.Q, 2*len(s.Joints))
	var work exact.Q
	for _, d := range freeOf(s) {
		moves[d] = someQ(r)
		work = work.Plus(moves[d].Times(exact.Int(pushIn(pushes, d).Num().Int64())))
	}
	if work.Sign() == 0 {
		return nil, false
	}
	for d := range moves {
		moves[d], _ = moves[d].Over(work)
	}
	return moves, true
}

// TestP3_10TwoSides compares what proves that factors can be carried with what
// proves that they can not: densities that are some part of those of a state,
// and any moves.
func TestP3_10TwoSides(t *testing.T) {
	r := rand.New(rand.NewSource(71))
	compared := 0
	for range 300 {
		s, pushes := rigid(r)
		state, e := truss.Solve(s, pushes)
		moves, ok := someMove(r, s, pushes)
		if e != api.OK || !ok {
			continue
		}
		upper, e := exact.Read(takes(s, rats(moves)).RatString())
		if e != api.OK {
			t.Fatal(e)
		}
		if down, e := truss.Breaks(s, pushes, upper, moves); !down || e != api.OK {
			t.Errorf("%v, pushes %v: moves %s do not break it: error %d", s, pushes, text(moves), e)
		}
		for n := range 6 {
			factor, _ := exact.Of(int64(n*n), int64(1+r.Intn(5)))
			var densities []exact.Q
			for _, q := range state.Densities {
				densities = append(densities, q.Times(factor))
			}
			if up, _ := truss.Stands(s, pushes, factor, densities); up {
				compared++
				if factor.Cmp(upper) > 0 {
					t.Errorf("%v, pushes %v: %s stands, and %s breaks", s, pushes, factor.Text(), upper.Text())
				}
			}
		}
		if f := limitOf(t, s, pushes); f.Cmp(upper) > 0 {
			t.Errorf("%v, pushes %v: the limit is %s, and %s breaks", s, pushes, f.Text(), upper.Text())
		}
	}
	if compared < 100 {
		t.Errorf("only %d factors stand", compared)
	}
}

func TestP3_10More(t *testing.T) {
	r := rand.New(rand.NewSource(72))
	grown := 0
	for range 100 {
		s := someTruss(r)
		pushes := somePushes(r, s)
		if isIdle(s, pushes) || len(s.Joints) < 2 {
			continue
		}
		was := limitOf(t, s, pushes)
		more := copied(s)
		if r.Intn(2) == 0 && len(s.Bars) < api.MaxBars {
			a := r.Intn(len(s.Joints))
			more.Bars = append(more.Bars, api.Bar{A: a, B: (a + 1) % len(s.Joints), Stiff: 1, Tension: 10, Squash: 10})
		}
		for i := range more.Bars {
			b := &more.Bars[i]
			b.Tension = someInt(r, b.Tension, api.MaxBear)
			b.Squash = someInt(r, b.Squash, api.MaxBear)
		}
		is := limitOf(t, more, pushes)
		if is.Cmp(was) < 0 {
			t.Errorf("%v, pushes %v: the limit falls from %s to %s with %v", s, pushes, was.Text(), is.Text(), more.Bars)
		}
		grown += is.Cmp(was)
	}
	if grown < 10 {
		t.Errorf("only %d limits have grown", grown)
	}
}

// TestRules checks R3 and R4: nil is empty, and arguments stay as they are.
func TestRules(t *testing.T) {
	empty := api.Truss{Joints: []api.Joint{}, Bars: []api.Bar{}}
	if s, e := truss.Solve(empty, []api.Push{}); e != api.OK || len(s.Moves)+len(s.Densities)+len(s.Holds) != 0 {
		t.Errorf("Solve of nothing: error %d", e)
	}
	if ok, e := truss.Carry(empty, nil, []exact.Q{}); !ok || e != api.OK {
		t.Errorf("Carry of nothing: %v, error %d", ok, e)
	}
	if ok, e := truss.Breaks(empty, nil, exact.Int(1), nil); ok || e != api.OK {
		t.Errorf("Breaks of nothing: %v, error %d", ok, e)
	}
	s, pushes := greatest()
	kept, high := copied(s), lows(s)
	high[0] = api.MaxStiff
	a, _ := truss.Solve(s, pushes)
	if _, _, e := truss.Bounds(s, high, pushes); e != api.OK {
		t.Error(e)
	}
	f, q, u, _ := truss.Limit(s, pushes)
	b, _ := truss.Solve(s, pushes)
	before := [][]*big.Rat{rats(b.Moves), rats(b.Densities), rats(b.Holds), rats(q), rats(u)}
	for _, list := range [][]exact.Q{a.Moves, a.Densities, a.Holds} {
		for i := range list {
			list[i] = exact.Int(99)
		}
		_ = append(list, exact.Int(98))
	}
	_, _ = append(q, exact.Int(97)), append(u, exact.Int(96))
	for i, list := range [][]exact.Q{b.Moves, b.Densities, b.Holds, q, u} {
		if !sameNumbers(list, before[i]) {
			t.Errorf("list %d shares memory", i)
		}
	}
	truss.Stands(s, pushes, f, q)
	truss.Breaks(s, pushes, f, u)
	if !sameNumbers(q, before[3]) || !sameNumbers(u, before[4]) || high[0] != api.MaxStiff {
		t.Error("an argument has changed")
	}
	_, want := greatest()
	for i := range s.Bars {
		if s.Bars[i] != kept.Bars[i] {
			t.Errorf("bar %d has changed", i)
		}
	}
	for i := range s.Joints {
		if s.Joints[i] != kept.Joints[i] || pushes[i] != want[i] {
			t.Errorf("joint %d has changed", i)
		}
	}
}
