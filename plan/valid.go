package plan

import (
	"slices"

	"voussoir/api"
	"voussoir/exact"
)

// Check returns ErrArg if a stock is not valid.
func Check(s Stock) api.Errno {
	if len(s.Bridges) > api.MaxStock || !isFrom(1, s.years(), api.MaxHorizon) || len(s.Apart) > api.MaxPairs {
		return api.ErrArg
	}
	if len(s.Caps) != 0 && len(s.Caps) != s.years() || slices.ContainsFunc(s.Budgets, isNegative) || slices.ContainsFunc(s.Caps, isNegative) {
		return api.ErrArg
	}
	isWrong := func(b Bridge) bool { return !s.canHave(b) }
	if slices.ContainsFunc(s.Bridges, isWrong) || slices.ContainsFunc(s.Apart, s.isWrongPair) {
		return api.ErrArg
	}
	return api.OK
}

// canHave reports whether a bridge is valid, with as many risks as there are years.
func (s Stock) canHave(b Bridge) bool {
	isWrong := func(o Option) bool {
		return isNegative(o.Cost) || isNegative(o.Factor) || o.Factor.Cmp(exact.Int(1)) > 0
	}
	return len(b.Risks) == s.years() && !slices.ContainsFunc(b.Risks, isNegative) &&
		len(b.Options) <= api.MaxChoices && !slices.ContainsFunc(b.Options, isWrong)
}

// isWrongPair reports whether a pair is not two different bridges of the stock.
func (s Stock) isWrongPair(pair [2]int) bool {
	last := len(s.Bridges) - 1
	return pair[0] == pair[1] || !isFrom(0, pair[0], last) || !isFrom(0, pair[1], last)
}

// years returns how many years there are.
func (s Stock) years() int { return len(s.Budgets) }

// isNegative reports whether a number is below 0.
func isNegative(x exact.Q) bool { return x.Sign() < 0 }

// isFrom reports whether an integer is from low to high.
func isFrom(low, x, high int) bool { return low <= x && x <= high }
