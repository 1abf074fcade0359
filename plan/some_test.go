package plan_test

import (
	"math/rand"
	"slices"

	"voussoir/api"
	"voussoir/exact"
	"voussoir/plan"
)

// someInt returns an integer from low to high.
func someInt(r *rand.Rand, low, high int) int { return low + r.Intn(high-low+1) }

// part returns a fraction whose denominator is not 0.
func part(a, b int) exact.Q {
	x, _ := exact.Of(int64(a), int64(b))
	return x
}

// someNum returns a number at random from 0 to most, often an integer.
func someNum(r *rand.Rand, most int) exact.Q {
	parts := []int{1, 1, 1, 2, 3, 7}[r.Intn(6)]
	return part(r.Intn(most*parts+1), parts)
}

// someNums returns numbers at random.
func someNums(r *rand.Rand, count, most int) []exact.Q {
	var list []exact.Q
	for range count {
		list = append(list, someNum(r, most))
	}
	return list
}

// someBridge returns a bridge at random.
func someBridge(r *rand.Rand, years, options int) plan.Bridge {
	b := plan.Bridge{Risks: someNums(r, years, 9)}
	if r.Intn(3) == 0 {
		b.Risks = slices.Repeat(b.Risks[:1], years)
	}
	for range options {
		parts := someInt(r, 1, 4)
		b.Options = append(b.Options, plan.Option{Cost: someNum(r, 9), Factor: part(r.Intn(parts+1), parts)})
	}
	return b
}

// someStock returns a stock at random with at most so many bridges and years.
func someStock(r *rand.Rand, bridges, years int) plan.Stock {
	count, years := r.Intn(bridges+1), someInt(r, 1, years)
	s := plan.Stock{Budgets: someNums(r, years, []int{1, 3, 8, 20}[r.Intn(4)])}
	for range count {
		s.Bridges = append(s.Bridges, someBridge(r, years, someInt(r, 0, api.MaxChoices)))
	}
	if r.Intn(2) == 0 {
		for year := range years {
			s.Caps = append(s.Caps, someCap(r, s, year))
		}
	}
	for range r.Intn(6) * min(1, count/2) {
		a := r.Intn(count)
		s.Apart = append(s.Apart, [2]int{a, (a + 1 + r.Intn(count-1)) % count})
	}
	return s
}

// someSmall returns a stock at random that does not have many plans.
func someSmall(r *rand.Rand) plan.Stock {
	for {
		s := someStock(r, api.MaxStock, api.MaxHorizon)
		plans := 1
		for bridge := range s.Bridges {
			plans *= len(choicesFor(s, bridge))
		}
		if plans <= 400 {
			return s
		}
	}
}

// someCap returns a cap for a year at random, mostly one that is hard to keep:
// the whole risk or part of it.
func someCap(r *rand.Rand, s plan.Stock, year int) exact.Q {
	var sum exact.Q
	for _, b := range s.Bridges {
		sum = sum.Plus(b.Risks[year])
	}
	return sum.Times(part(someInt(r, 5, 12), 10))
}

// somePlan returns a plan for a stock at random.
func somePlan(r *rand.Rand, s plan.Stock) []api.Choice {
	var list []api.Choice
	for bridge := range s.Bridges {
		choices := choicesFor(s, bridge)
		list = append(list, choices[r.Intn(len(choices))])
	}
	return list
}

// someProof returns a proof at random for a number: each beginning gets what is
// right, if there is that, but sometimes it is split though it need not be, and
// rarely it gets something else.
func someProof(r *rand.Rand, s plan.Stock, least exact.Q, list []api.Choice) api.Node {
	isBroken, isCut := refusal(s, list) != api.OK, boundOf(s, list).Cmp(rat(least)) >= 0
	switch {
	case r.Intn(40) == 0:
		return api.Node{Kind: api.NodeKind(someInt(r, 1, 3))}
	case isBroken && r.Intn(5) > 0:
		return api.Node{Kind: api.NodeBroken}
	case isCut && r.Intn(5) > 0 || len(list) == len(s.Bridges):
		return api.Node{Kind: api.NodeCut}
	}
	n := api.Node{Kind: api.NodeSplit}
	for _, c := range choicesFor(s, len(list)) {
		n.Children = append(n.Children, someProof(r, s, least, append(slices.Clone(list), c)))
	}
	if r.Intn(30) == 0 {
		n.Children = n.Children[1:]
	}
	return n
}
