package plan_test

import (
	"math/big"
	"slices"

	"voussoir/api"
	"voussoir/exact"
	"voussoir/plan"
)

// What the chapter says, computed with math/big and with all plans, as directly
// as it is said.

// rat returns a number as one of math/big.
func rat(x exact.Q) *big.Rat {
	r, ok := new(big.Rat).SetString(x.Text())
	if !ok {
		panic("not a number: " + x.Text())
	}
	return r
}

// add returns a sum.
func add(x, y *big.Rat) *big.Rat { return new(big.Rat).Add(x, y) }

// choicesFor returns the choices for a bridge, in their order.
func choicesFor(s plan.Stock, bridge int) []api.Choice {
	list := []api.Choice{{Option: -1, Year: 0}}
	for option := range s.Bridges[bridge].Options {
		for year := range s.Budgets {
			list = append(list, api.Choice{Option: option, Year: year})
		}
	}
	return list
}

// riskIn returns the risk of a bridge in a year.
func riskIn(s plan.Stock, bridge int, c api.Choice, year int) *big.Rat {
	risk := rat(s.Bridges[bridge].Risks[year])
	if c.Option >= 0 && year >= c.Year {
		risk.Mul(risk, rat(s.Bridges[bridge].Options[c.Option].Factor))
	}
	return risk
}

// riskOf returns the risk of a bridge over all years.
func riskOf(s plan.Stock, bridge int, c api.Choice) *big.Rat {
	sum := new(big.Rat)
	for year := range s.Budgets {
		sum = add(sum, riskIn(s, bridge, c, year))
	}
	return sum
}

// leastOf returns the least of what the choices for a bridge give.
func leastOf(s plan.Stock, bridge int, gives func(c api.Choice) *big.Rat) *big.Rat {
	var low *big.Rat
	for _, c := range choicesFor(s, bridge) {
		if x := gives(c); low == nil || x.Cmp(low) < 0 {
			low = x
		}
	}
	return low
}

// spentIn returns what a beginning spends in a year.
func spentIn(s plan.Stock, list []api.Choice, year int) *big.Rat {
	sum := new(big.Rat)
	for bridge, c := range list {
		if c.Option >= 0 && c.Year == year {
			sum = add(sum, rat(s.Bridges[bridge].Options[c.Option].Cost))
		}
	}
	return sum
}

// isOver reports whether a beginning spends more than there is.
func isOver(s plan.Stock, list []api.Choice) bool {
	for last := range s.Budgets {
		spent, budget := new(big.Rat), new(big.Rat)
		for year := range last + 1 {
			spent, budget = add(spent, spentIn(s, list, year)), add(budget, rat(s.Budgets[year]))
		}
		if spent.Cmp(budget) > 0 {
			return true
		}
	}
	return false
}

// riskAtLeast returns the risk of all bridges in a year, with the least one for
// each bridge that a beginning does not have.
func riskAtLeast(s plan.Stock, list []api.Choice, year int) *big.Rat {
	sum := new(big.Rat)
	for bridge := range s.Bridges {
		if bridge < len(list) {
			sum = add(sum, riskIn(s, bridge, list[bridge], year))
		} else {
			sum = add(sum, leastOf(s, bridge, func(c api.Choice) *big.Rat { return riskIn(s, bridge, c, year) }))
		}
	}
	return sum
}

// isAbove reports whether a beginning is above a cap, whatever comes after it.
func isAbove(s plan.Stock, list []api.Choice) bool {
	for year := range s.Caps {
		if riskAtLeast(s, list, year).Cmp(rat(s.Caps[year])) > 0 {
			return true
		}
	}
	return false
}

// isTogether reports whether two bridges of a beginning that must be apart get an
// option in the same year.
func isTogether(s plan.Stock, list []api.Choice) bool {
	for _, pair := range s.Apart {
		if max(pair[0], pair[1]) >= len(list) {
			continue
		}
		a, b := list[pair[0]], list[pair[1]]
		if a.Option >= 0 && b.Option >= 0 && a.Year == b.Year {
			return true
		}
	}
	return false
}

// refusal returns the error of the first condition that is not true of a plan, or
// that makes a beginning broken.
func refusal(s plan.Stock, list []api.Choice) api.Errno {
	switch {
	case isOver(s, list):
		return api.ErrBudget
	case isAbove(s, list):
		return api.ErrCap
	case isTogether(s, list):
		return api.ErrApart
	}
	return api.OK
}

// boundOf returns the bound of a beginning; of a plan this is its risk.
func boundOf(s plan.Stock, list []api.Choice) *big.Rat {
	sum := new(big.Rat)
	for bridge := range s.Bridges {
		if bridge < len(list) {
			sum = add(sum, riskOf(s, bridge, list[bridge]))
		} else {
			sum = add(sum, leastOf(s, bridge, func(c api.Choice) *big.Rat { return riskOf(s, bridge, c) }))
		}
	}
	return sum
}

// ratText returns the text of a number.
func ratText(x *big.Rat) string { return x.RatString() }

// resultOf returns the text of what a plan gives.
func resultOf(s plan.Stock, list []api.Choice) string {
	text := ratText(boundOf(s, list)) + ";"
	for year := range s.Budgets {
		text += " " + ratText(riskAtLeast(s, list, year))
	}
	text += ";"
	for year := range s.Budgets {
		text += " " + ratText(spentIn(s, list, year))
	}
	return text
}

// plansOf returns all plans, the smallest one first.
func plansOf(s plan.Stock) [][]api.Choice {
	list := [][]api.Choice{nil}
	for bridge := range s.Bridges {
		var longer [][]api.Choice
		for _, before := range list {
			for _, c := range choicesFor(s, bridge) {
				longer = append(longer, append(slices.Clone(before), c))
			}
		}
		list = longer
	}
	return list
}

// allowedOf returns all allowed plans, the smallest one first.
func allowedOf(s plan.Stock) [][]api.Choice {
	isWrong := func(list []api.Choice) bool { return refusal(s, list) != api.OK }
	return slices.DeleteFunc(plansOf(s), isWrong)
}

// bestOf returns the first allowed plan with the least risk, and its risk; there
// is no risk if no plan is allowed.
func bestOf(s plan.Stock) ([]api.Choice, *big.Rat) {
	var best []api.Choice
	var low *big.Rat
	for _, list := range allowedOf(s) {
		if risk := boundOf(s, list); low == nil || risk.Cmp(low) < 0 {
			best, low = list, risk
		}
	}
	return best, low
}

// isRight reports whether a node is right for a beginning.
func isRight(s plan.Stock, least *big.Rat, list []api.Choice, n api.Node) bool {
	switch n.Kind {
	case api.NodeCut:
		return len(n.Children) == 0 && boundOf(s, list).Cmp(least) >= 0
	case api.NodeBroken:
		return len(n.Children) == 0 && refusal(s, list) != api.OK
	case api.NodeSplit:
		if len(list) == len(s.Bridges) || len(n.Children) != len(choicesFor(s, len(list))) {
			return false
		}
		for i, c := range choicesFor(s, len(list)) {
			if !isRight(s, least, append(slices.Clone(list), c), n.Children[i]) {
				return false
			}
		}
		return true
	}
	return false
}
