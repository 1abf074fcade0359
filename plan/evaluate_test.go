package plan_test

import (
	"math/rand"
	"slices"
	"testing"

	"voussoir/api"
	"voussoir/plan"
)

func TestP10_2Examples(t *testing.T) {
	s := example()
	checkEvaluate(t, s, choices("- -"), "28; 14 14; 0 0")
	checkEvaluate(t, s, choices("- 0@0"), "16; 8 8; 10 0")
	checkEvaluate(t, s, choices("- 0@1"), "22; 14 8; 0 10")
	checkEvaluate(t, s, choices("0@1 -"), "24; 14 10; 0 15")
	noEvaluate(t, s, choices("0@0 -"), api.ErrBudget)
	noEvaluate(t, s, choices("0@1 0@0"), api.ErrBudget)
	checkEvaluate(t, example("caps 14 9"), choices("- 0@0"), "16; 8 8; 10 0")
	noEvaluate(t, example("caps 7 9"), choices("- 0@0"), api.ErrCap)
	checkEvaluate(t, apart(), choices("0@1 0@0"), "12; 8 4; 10 15")
	checkEvaluate(t, apart(), choices("0@0 0@1"), "14; 10 4; 15 10")
	noEvaluate(t, apart(), choices("0@0 0@0"), api.ErrApart)
	noEvaluate(t, apart(), choices("0@1 0@1"), api.ErrApart)
}

// TestP10_2Edges takes what is just allowed, and what is just not.
func TestP10_2Edges(t *testing.T) {
	checkEvaluate(t, example("budgets 15 0"), choices("0@0 -"), "20; 10 10; 15 0")
	noEvaluate(t, example("budgets 1499/100 99"), choices("0@0 -"), api.ErrBudget)
	checkEvaluate(t, example("budgets 10 15"), choices("0@1 0@0"), "12; 8 4; 10 15") // what is left over can be used later
	checkEvaluate(t, example("budgets 25 0"), choices("0@1 0@0"), "12; 8 4; 10 15")
	noEvaluate(t, example("budgets 9 99"), choices("- 0@0"), api.ErrBudget) // and nothing before its year
	checkEvaluate(t, example("caps 8 8"), choices("- 0@0"), "16; 8 8; 10 0")
	noEvaluate(t, example("caps 8 79/10"), choices("- 0@0"), api.ErrCap)
	noEvaluate(t, example("caps 79/10 8"), choices("- 0@0"), api.ErrCap)
	noEvaluate(t, example("caps 0 0"), choices("- -"), api.ErrCap)
	checkEvaluate(t, stock("budgets 0"), nil, "0; 0; 0")
	checkEvaluate(t, stock("budgets 1 2 3", "caps 0 0 0"), nil, "0; 0 0 0; 0 0 0")
	free := stock("budgets 0 0 0", "bridge 1/2 1/3 1/5 : 0 1 : 0 0")
	checkEvaluate(t, free, choices("-"), "31/30; 1/2 1/3 1/5; 0 0 0")
	checkEvaluate(t, free, choices("0@0"), "31/30; 1/2 1/3 1/5; 0 0 0")
	checkEvaluate(t, free, choices("1@0"), "0; 0 0 0; 0 0 0")
	checkEvaluate(t, free, choices("1@1"), "1/2; 1/2 0 0; 0 0 0")
	checkEvaluate(t, free, choices("1@2"), "5/6; 1/2 1/3 0; 0 0 0")
	twin := stock("budgets 9", "bridge 1 : 1 1", "bridge 1 : 1 1", "bridge 1 : 1 1", "apart 2 0")
	checkEvaluate(t, twin, choices("0@0 0@0 -"), "3; 3; 2")
	checkEvaluate(t, twin, choices("- 0@0 0@0"), "3; 3; 2")
	noEvaluate(t, twin, choices("0@0 - 0@0"), api.ErrApart)
}

// TestP10_2Order checks which error is told if several conditions are not true.
func TestP10_2Order(t *testing.T) {
	all := choices("0@0 0@0")
	noEvaluate(t, apart("budgets 24 99", "caps 1 1"), all, api.ErrBudget)
	noEvaluate(t, apart("budgets 24 99"), all, api.ErrBudget)
	noEvaluate(t, apart("caps 1 1"), all, api.ErrCap)
	noEvaluate(t, apart("caps 4 4"), all, api.ErrApart)
	noEvaluate(t, example("budgets 24 99", "caps 1 1"), all, api.ErrBudget)
	noEvaluate(t, example("budgets 14 0", "caps 1 1"), choices("0@1 -"), api.ErrBudget) // of a later year than the cap
}

// TestP10_2NoPlan evaluates lists that are no plans.
func TestP10_2NoPlan(t *testing.T) {
	s := example("budgets 0 0", "caps 0 0") // no plan is allowed
	none := api.Choice{Option: -1}
	for _, list := range []string{"", "-", "- - -", "0@0", "0@0 0@0 0@0", "- 1@0", "1@0 -", "2@1 -", "0@2 -", "- 0@2", "-1@1 -", "- -2@0", "0@-1 0@0"} {
		noEvaluate(t, s, choices(list), api.ErrArg)
	}
	for _, n := range extremes() {
		for _, c := range []api.Choice{{Option: n}, {Option: -1, Year: n}, {Option: 0, Year: n}, {Option: n, Year: n}} {
			noEvaluate(t, s, []api.Choice{c, none}, api.ErrArg)
			noEvaluate(t, s, []api.Choice{none, c}, api.ErrArg)
		}
	}
	noEvaluate(t, s, slices.Repeat([]api.Choice{none}, 1000), api.ErrArg)
	noEvaluate(t, stock("budgets 0"), choices("-"), api.ErrArg)
	noEvaluate(t, stock("budgets 0", "bridge 1"), choices("0@0"), api.ErrArg)
	noEvaluate(t, s, choices("- -"), api.ErrCap)
}

// TestP10_2Plans evaluates plans at random.
func TestP10_2Plans(t *testing.T) {
	r := rand.New(rand.NewSource(102))
	count := map[api.Errno]int{}
	for range 4000 {
		s := someStock(r, api.MaxStock, api.MaxHorizon)
		list := somePlan(r, s)
		e := refusal(s, list)
		if count[e]++; e == api.OK {
			checkEvaluate(t, s, list, resultOf(s, list))
		} else {
			noEvaluate(t, s, list, e)
		}
	}
	for _, e := range []api.Errno{api.OK, api.ErrBudget, api.ErrCap, api.ErrApart} {
		if count[e] < 30 {
			t.Error("too few of a kind", count)
		}
	}
}

// TestP10_2EachPlan evaluates all plans of a few stocks.
func TestP10_2EachPlan(t *testing.T) {
	for _, s := range []plan.Stock{example(), apart(), example("caps 14 9"), stock("budgets 3 0 1", "caps 9 8 7",
		"bridge 1 2 3 : 3 1/2 : 1 2/3", "bridge 6 6 5 : 1 1/2 : 2 1/3", "bridge 1/2 0 1/7 : 0 0", "apart 1 2", "apart 0 1")} {
		for _, list := range plansOf(s) {
			if e := refusal(s, list); e == api.OK {
				checkEvaluate(t, s, list, resultOf(s, list))
			} else {
				noEvaluate(t, s, list, e)
			}
		}
	}
}
