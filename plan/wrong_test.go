package plan_test

import (
	"slices"

	"voussoir/api"
	"voussoir/exact"
	"voussoir/plan"
)

// What is not valid, and the greatest that is.

// extremes returns integers that are outside of all ranges.
func extremes() []int {
	return []int{-1 << 63, 1<<63 - 1, -1 << 32, 1 << 32, -1 << 31, 1 << 31}
}

// greatest returns a stock of the greatest size in which a search has to try
// nearly everything: nothing keeps a bridge from any choice but that the one with
// the greatest risks can not pay what would help most.
func greatest() plan.Stock {
	s := stock("budgets 9 1 2 3 4", "caps 99999999 99999999 99999999 99999999 99999999",
		"bridge 10 20 30 40 50 : 0 1/2 : 1 3/10", "bridge 70 50 60 20 40 : 1 2/5 : 0 9/10", "bridge 30 30 30 30 30 : 1 1/10 : 0 1/5",
		"bridge 90 80 10 0 60 : 0 7/10 : 1 1/2", "bridge 10000 20000 30000 20000 10000 : 20 0 : 1 9/10")
	for len(s.Apart) < api.MaxPairs {
		s.Apart = append(s.Apart, [2]int{len(s.Apart) % 2, 2 + len(s.Apart)%3})
	}
	return s
}

// lengthened returns a stock like the greatest one, in which all numbers are
// different fractions with long numerators and denominators.
func lengthened() plan.Stock {
	s := greatest()
	count := 0
	longer := func(x exact.Q) exact.Q {
		count++
		return x.Times(num("999999999999999989/999999999999999990").Minus(num("1/1000000000").Times(part(1, 1000003+count))))
	}
	change := func(list []exact.Q) {
		for i, x := range list {
			list[i] = longer(x)
		}
	}
	change(s.Budgets)
	change(s.Caps)
	for _, b := range s.Bridges {
		change(b.Risks)
		for i, o := range b.Options {
			b.Options[i] = plan.Option{Cost: longer(o.Cost), Factor: longer(o.Factor)}
		}
	}
	return s
}

// changed returns stocks, each of them a valid one after one change.
func changed(changes ...func(s *plan.Stock)) []plan.Stock {
	var list []plan.Stock
	for _, change := range changes {
		s := example("caps 14 9", "bridge 1 2", "bridge 3 4 : 5 1/6 : 7 1/8", "apart 0 1", "apart 3 2")
		change(&s)
		list = append(list, s)
	}
	return list
}

// wrongNumbers returns stocks that are not valid because of a number.
func wrongNumbers() []plan.Stock {
	var list []plan.Stock
	for _, x := range []exact.Q{num("-1"), num("-1/340282366920938463463374607431768211456"), num("-340282366920938463463374607431768211456")} {
		list = append(list, changed(
			func(s *plan.Stock) { s.Budgets[0] = x },
			func(s *plan.Stock) { s.Budgets[1] = x },
			func(s *plan.Stock) { s.Caps[0] = x },
			func(s *plan.Stock) { s.Caps[1] = x },
			func(s *plan.Stock) { s.Bridges[0].Risks[0] = x },
			func(s *plan.Stock) { s.Bridges[2].Risks[1] = x },
			func(s *plan.Stock) { s.Bridges[3].Risks[1] = x },
			func(s *plan.Stock) { s.Bridges[0].Options[0].Cost = x },
			func(s *plan.Stock) { s.Bridges[3].Options[1].Cost = x },
			func(s *plan.Stock) { s.Bridges[0].Options[0].Factor = x },
			func(s *plan.Stock) { s.Bridges[3].Options[1].Factor = x })...)
	}
	for _, x := range []exact.Q{num("2"), num("340282366920938463463374607431768211457/340282366920938463463374607431768211456")} {
		list = append(list, changed(
			func(s *plan.Stock) { s.Bridges[1].Options[0].Factor = x },
			func(s *plan.Stock) { s.Bridges[3].Options[1].Factor = x })...)
	}
	return list
}

// wrongLengths returns stocks that are not valid because of the length of a list.
func wrongLengths() []plan.Stock {
	list := changed(
		func(s *plan.Stock) { *s = plan.Stock{} },
		func(s *plan.Stock) { s.Budgets = nil },
		func(s *plan.Stock) { s.Budgets = s.Budgets[:1] },
		func(s *plan.Stock) { s.Budgets = nums("1 1 1") },
		func(s *plan.Stock) { *s = plan.Stock{Budgets: make([]exact.Q, api.MaxHorizon+1)} },
		func(s *plan.Stock) { *s = plan.Stock{Budgets: make([]exact.Q, 1000)} },
		func(s *plan.Stock) { s.Caps = s.Caps[:1] },
		func(s *plan.Stock) { s.Caps = nums("1 1 1") },
		func(s *plan.Stock) { *s = stock("budgets 1", "caps 1 1") },
		func(s *plan.Stock) { s.Bridges[0].Risks = nil },
		func(s *plan.Stock) { s.Bridges[3].Risks = s.Bridges[3].Risks[:1] },
		func(s *plan.Stock) { s.Bridges[1].Risks = nums("1 1 1") },
		func(s *plan.Stock) { s.Bridges[0].Options = slices.Repeat(s.Bridges[0].Options, api.MaxChoices+1) },
		func(s *plan.Stock) { s.Bridges[3].Options = slices.Repeat(s.Bridges[0].Options, 1000) },
		func(s *plan.Stock) { s.Bridges = append(s.Bridges, s.Bridges[:2]...) },
		func(s *plan.Stock) { s.Bridges = slices.Repeat(s.Bridges, 100) },
		func(s *plan.Stock) { s.Apart = slices.Repeat(s.Apart[:1], api.MaxPairs+1) },
		func(s *plan.Stock) { s.Apart = slices.Repeat(s.Apart, 100) },
	)
	for years := 1; years < api.MaxHorizon; years++ {
		s := plan.Stock{Budgets: make([]exact.Q, years), Bridges: []plan.Bridge{{Risks: make([]exact.Q, years+1)}}}
		list = append(list, s)
	}
	return list
}

// wrongPairs returns stocks that are not valid because of a pair.
func wrongPairs() []plan.Stock {
	list := changed(
		func(s *plan.Stock) { s.Apart[0] = [2]int{} },
		func(s *plan.Stock) { s.Apart[1] = [2]int{3, 3} },
		func(s *plan.Stock) { *s = stock("budgets 1", "apart 0 1") },
		func(s *plan.Stock) { *s = stock("budgets 1", "apart 0 0") },
		func(s *plan.Stock) { *s = stock("budgets 1", "bridge 1", "apart 0 0") },
	)
	for _, n := range append(extremes(), -1, 4, 5) {
		list = append(list, changed(
			func(s *plan.Stock) { s.Apart[0][0] = n },
			func(s *plan.Stock) { s.Apart[0][1] = n },
			func(s *plan.Stock) { s.Apart[1][0] = n },
			func(s *plan.Stock) { s.Apart[1][1] = n },
			func(s *plan.Stock) { s.Apart[1] = [2]int{n, n} })...)
	}
	return list
}

// wrongStocks returns stocks that are not valid.
func wrongStocks() []plan.Stock { return slices.Concat(wrongNumbers(), wrongLengths(), wrongPairs()) }

// validStocks returns stocks that are valid, at the limits of what is.
func validStocks() []plan.Stock {
	list := changed(
		func(s *plan.Stock) {},
		func(s *plan.Stock) { s.Caps = nil },
		func(s *plan.Stock) { s.Caps = nums("0 0") },
		func(s *plan.Stock) { s.Budgets = nums("0 0") },
		func(s *plan.Stock) { s.Bridges[0].Risks = nums("0 0") },
		func(s *plan.Stock) { s.Bridges[0].Risks[1] = num("340282366920938463463374607431768211456") },
		func(s *plan.Stock) { s.Bridges[0].Options = nil },
		func(s *plan.Stock) { s.Bridges[3].Options[1] = plan.Option{Factor: num("1")} },
		func(s *plan.Stock) { s.Bridges[3].Options[0] = plan.Option{} },
		func(s *plan.Stock) { s.Bridges[3].Options[0] = s.Bridges[3].Options[1] },
		func(s *plan.Stock) { s.Bridges = append(s.Bridges, s.Bridges[3]) },
		func(s *plan.Stock) { s.Apart = slices.Repeat(s.Apart[1:], api.MaxPairs) },
		func(s *plan.Stock) { s.Apart = [][2]int{{0, 3}, {3, 0}, {0, 3}} },
		func(s *plan.Stock) { *s = stock("budgets 0") },
		func(s *plan.Stock) { *s = stock("budgets 1 2 3 4 5", "caps 1 2 3 4 5") },
		func(s *plan.Stock) { *s = stock("budgets 1", "caps 0", "bridge 1") },
	)
	return append(list, greatest(), lengthened())
}
