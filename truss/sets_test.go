package truss_test

import (
	"math/big"
	"math/rand"
	"testing"

	"voussoir/api"
	"voussoir/exact"
	"voussoir/truss"
)

// lows returns the stiffnesses of a truss.
func lows(s api.Truss) []int {
	var list []int
	for _, b := range s.Bars {
		list = append(list, b.Stiff)
	}
	return list
}

func TestP3_4Examples(t *testing.T) {
	s, pushes := hanging()
	spare := api.Truss{
		Joints: []api.Joint{joint(0, 0, "xy"), joint(1, 0, "y"), joint(2, 0, "xy")},
		Bars:   []api.Bar{bar(0, 1, 1), bar(1, 2, 1)},
	}
	middle := pushed(0, 0, 12, 0, 0, 0)
	for _, c := range []struct {
		s                api.Truss
		high             []int
		pushes           []api.Push
		densities, moves string
	}{
		{s, []int{2, 1}, pushes, "3..3 -3..-3", "0..0 0..0 0..0 0..0 9/8..3/2 1/2..1"},
		{s, []int{1, 1}, pushes, "3..3 -3..-3", "0..0 0..0 0..0 0..0 3/2..3/2 1..1"},
		{s, []int{2, 2}, pushes, "3..3 -3..-3", "0..0 0..0 0..0 0..0 3/4..3/2 1/2..1"},
		{s, []int{2, 2}, pushed(0, 0, 0, 0, -12, 0), "-3..-3 3..3", "0..0 0..0 0..0 0..0 -3/2..-3/4 -1..-1/2"},
		{s, []int{1, api.MaxStiff}, pushed(0, 0, 0, 0, 0, 0), "0..0 0..0", "0..0 0..0 0..0 0..0 0..0 0..0"},
		{spare, []int{1, 3}, middle, "3..6 -9..-6", "0..0 0..0 3..6 0..0 0..0 0..0"},
		{spare, []int{5, 3}, middle, "3..10 -9..-2", "0..0 0..0 3/2..6 0..0 0..0 0..0"},
		{api.Truss{}, nil, nil, "", ""},
	} {
		densities, moves, e := truss.Bounds(c.s, c.high, c.pushes)
		if e != api.OK || spansText(densities) != c.densities || spansText(moves) != c.moves {
			t.Errorf("%v to %v, pushes %v: error %d, densities %s, moves %s", c.s, c.high, c.pushes, e, spansText(densities), spansText(moves))
		}
	}
}

// someStiff returns stiffnesses of a truss of a set: any numbers, often ends.
func someStiff(r *rand.Rand, s api.Truss, high []int) []*big.Rat {
	list := stiffOf(s)
	for i := range list {
		part := big.NewRat(int64(someInt(r, 0, 7)), 7)
		list[i] = plus(list[i], times(part, fromInt(high[i]-s.Bars[i].Stiff)))
	}
	return list
}

// checkHas checks that spans have numbers.
func checkHas(t *testing.T, what string, spans []exact.Span, numbers []*big.Rat) {
	t.Helper()
	if len(spans) != len(numbers) {
		t.Fatalf("%s: %d spans, not %d", what, len(spans), len(numbers))
	}
	for i, s := range spans {
		if rat(s.Low).Cmp(numbers[i]) > 0 || rat(s.High).Cmp(numbers[i]) < 0 {
			t.Errorf("%s: %s is not in %s to %s", what, numbers[i], s.Low.Text(), s.High.Text())
		}
	}
}

func TestP3_4Inside(t *testing.T) {
	r := rand.New(rand.NewSource(41))
	for range 60 {
		s, pushes := rigid(r)
		high := someHigh(r, s, r.Intn(5))
		densities, moves, e := truss.Bounds(s, high, pushes)
		if e != api.OK {
			t.Fatal(e)
		}
		for range 6 {
			u, q := stateOf(s, someStiff(r, s, high), pushes)
			checkHas(t, "moves", moves, u)
			checkHas(t, "densities", densities, q)
		}
	}
}

// hull returns the least and the greatest of each number of some lists.
func hull(lists [][]*big.Rat) (low, high []*big.Rat) {
	for _, list := range lists {
		for i, x := range list {
			if len(low) == i {
				low, high = append(low, x), append(high, x)
			}
			if x.Cmp(low[i]) < 0 {
				low[i] = x
			}
			if x.Cmp(high[i]) > 0 {
				high[i] = x
			}
		}
	}
	return low, high
}

// endsOf returns the lower and the upper ends of spans.
func endsOf(spans []exact.Span) (low, high []exact.Q) {
	for _, s := range spans {
		low, high = append(low, s.Low), append(high, s.High)
	}
	return low, high
}

// TestP3_9Ends checks that the ends are those of the states at the corners of
// the set, so that each of them is the number of such a truss.
func TestP3_9Ends(t *testing.T) {
	r := rand.New(rand.NewSource(39))
	for n := range 40 {
		s, pushes := rigid(r)
		high := someHigh(r, s, n%4)
		var moves, densities [][]*big.Rat
		for corner := range 1 << len(s.Bars) {
			stiff, again := stiffOf(s), false
			for i := range stiff {
				if corner>>i&1 == 1 {
					again = again || high[i] == s.Bars[i].Stiff
					stiff[i] = fromInt(high[i])
				}
			}
			if !again {
				u, q := stateOf(s, stiff, pushes)
				moves, densities = append(moves, u), append(densities, q)
			}
		}
		q, u, e := truss.Bounds(s, high, pushes)
		if e != api.OK {
			t.Fatal(e)
		}
		checkEnds(t, "moves", u, moves)
		checkEnds(t, "densities", q, densities)
	}
}

// checkEnds checks that spans are those of numbers in some lists.
func checkEnds(t *testing.T, what string, spans []exact.Span, lists [][]*big.Rat) {
	t.Helper()
	low, high := hull(lists)
	gotLow, gotHigh := endsOf(spans)
	if !sameNumbers(gotLow, low) || !sameNumbers(gotHigh, high) {
		t.Errorf("%s: %s", what, spansText(spans))
	}
}

// many returns a truss of one joint that hangs on so many bars, and pushes.
func many(bars int) (api.Truss, []api.Push) {
	s, pushes := hanging()
	for i := len(s.Bars); i < bars; i++ {
		s.Bars = append(s.Bars, bar(i%2, 2, 1+i))
	}
	return s, pushes
}

// noBounds checks that bounds are refused with an error.
func noBounds(t *testing.T, what string, s api.Truss, high []int, pushes []api.Push, want api.Errno) {
	t.Helper()
	q, u, e := truss.Bounds(s, high, pushes)
	if e != want || len(q)+len(u) != 0 {
		t.Errorf("%s: error %d, not %d; %d densities, %d moves", what, e, want, len(q), len(u))
	}
}

func TestP3_4Errors(t *testing.T) {
	wrongCalls(func(what string, s api.Truss, pushes []api.Push, valid bool) {
		if !valid {
			noBounds(t, what, s, lows(s), pushes, api.ErrArg)
		} else if _, _, e := truss.Bounds(s, lows(s), pushes); e != api.OK {
			t.Errorf("%s: error %d", what, e)
		}
	})
	s, pushes := hanging()
	for _, high := range [][]int{nil, {1}, {1, 1, 1}, {0, 1}, {1, 0}, {-1, 1}, {1, api.MaxStiff + 1}} {
		noBounds(t, "wrong stiffnesses", s, high, pushes, api.ErrArg)
	}
	for _, x := range extremes() {
		noBounds(t, "far stiffnesses", s, []int{1, x}, pushes, api.ErrArg)
	}
	if _, _, e := truss.Bounds(s, []int{1, api.MaxStiff}, pushes); e != api.OK {
		t.Errorf("the greatest stiffness: error %d", e)
	}
	wide := func(loose, bars int) []int {
		s, _ := many(bars)
		high := lows(s)
		for i := range loose {
			high[bars-1-i]++
		}
		return high
	}
	for bars := api.MaxLoose; bars <= api.MaxBars; bars += 5 {
		s, pushes := many(bars)
		if _, _, e := truss.Bounds(s, wide(api.MaxLoose, bars), pushes); e != api.OK {
			t.Errorf("%d bars: error %d", bars, e)
		}
	}
	s, pushes = many(9)
	noBounds(t, "7 bars that are loose", s, wide(7, 9), pushes, api.ErrLong)
	noBounds(t, "9 bars that are loose", s, wide(9, 9), pushes, api.ErrLong)
	late := wide(9, 9)
	late[8] = 1
	noBounds(t, "ErrArg comes before ErrLong", s, late, pushes, api.ErrArg)
	s.Joints[1] = joint(0, 5, "xy")
	noBounds(t, "ErrLong comes before ErrMoves", s, wide(7, 9), pushes, api.ErrLong)
	noBounds(t, "ErrMoves", s, wide(6, 9), pushes, api.ErrMoves)
	noBounds(t, "ErrMoves of one truss", s, lows(s), pushes, api.ErrMoves)
	lonely, push := alone()
	noBounds(t, "example 4", lonely, nil, push, api.ErrMoves)
	noBounds(t, "ErrArg comes before ErrMoves", lonely, []int{1}, push, api.ErrArg)
}

// TestP3_4Greatest has as many bars, corners and digits as there may be.
func TestP3_4Greatest(t *testing.T) {
	s, pushes := greatest()
	high := lows(s)
	for i := range high {
		if i%3 == 0 {
			high[i] = api.MaxStiff
		}
	}
	q, u, e := truss.Bounds(s, high, pushes)
	if e != api.OK {
		t.Fatal(e)
	}
	r := rand.New(rand.NewSource(44))
	for range 3 {
		moves, densities := stateOf(s, someStiff(r, s, high), pushes)
		checkHas(t, "moves", u, moves)
		checkHas(t, "densities", q, densities)
	}
}
