package moving

import (
	"slices"

	"voussoir/api"
	"voussoir/exact"
)

// Impact is the factor from a speed on.
type Impact struct {
	From   int
	Factor exact.Q
}

// Factors returns the span of the impact factors of some speeds.
func Factors(table []Impact, from, to int) (exact.Span, api.Errno) {
	speeds := 0 <= from && from <= to && to <= api.MaxSpeed
	if e := first(checkImpacts(table), unless(speeds, api.ErrRange)); e != api.OK {
		return exact.Span{}, e
	}
	list := table[at(table, from) : at(table, to)+1]
	byFactor := func(i, j Impact) int { return i.Factor.Cmp(j.Factor) }
	return exact.Between(slices.MinFunc(list, byFactor).Factor, slices.MaxFunc(list, byFactor).Factor), api.OK
}

// at returns the number of the element of a valid table that applies at a speed.
func at(table []Impact, speed int) int {
	later := func(i Impact) bool { return i.From > speed }
	if n := slices.IndexFunc(table, later); n >= 0 {
		return n - 1
	}
	return len(table) - 1
}

// Lanes returns the span of the effects of several lanes.
func Lanes(lanes []exact.Span, factors []exact.Q) (exact.Span, api.Errno) {
	if len(lanes) > api.MaxLanes || len(factors) != len(lanes) || slices.ContainsFunc(factors, isNegative) {
		return exact.Span{}, api.ErrArg
	}
	var lows, highs []exact.Q
	for _, s := range lanes {
		s = exact.Between(s.Low, s.High)
		lows, highs = append(lows, s.Low), append(highs, s.High)
	}
	slices.SortFunc(lows, exact.Q.Cmp)
	slices.SortFunc(highs, func(x, y exact.Q) int { return y.Cmp(x) })
	var span exact.Span
	var low, high exact.Q // the sums of the lowest and of the highest so many lanes
	for k, factor := range factors {
		low, high = low.Plus(lows[k]), high.Plus(highs[k])
		span = span.Hull(exact.Between(low.Times(factor), high.Times(factor)))
	}
	return span, api.OK
}
