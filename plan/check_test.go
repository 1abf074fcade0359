package plan_test

import (
	"testing"

	"voussoir/api"
	"voussoir/exact"
	"voussoir/plan"
)

func TestP10_1Valid(t *testing.T) {
	for _, s := range validStocks() {
		if e := plan.Check(s); e != api.OK {
			t.Errorf("%s\nerror %d", stockText(s), e)
		}
	}
	s := greatest()
	if len(s.Bridges) != api.MaxStock || len(s.Budgets) != api.MaxHorizon || len(s.Apart) != api.MaxPairs || len(s.Bridges[0].Options) != api.MaxChoices {
		t.Error("not the greatest stock")
	}
}

func TestP10_1Wrong(t *testing.T) {
	for _, s := range wrongStocks() {
		if e := plan.Check(s); e != api.ErrArg {
			t.Errorf("%s\nerror %d", stockText(s), e)
		}
	}
}

// TestP10_1Everywhere checks that each function refuses stocks that are not
// valid, before it looks at its other argument.
func TestP10_1Everywhere(t *testing.T) {
	for _, s := range wrongStocks() {
		for _, list := range []string{"", "-", "- - - -", "0@0 0@0 - 0@0", "7@7"} {
			noEvaluate(t, s, choices(list), api.ErrArg)
		}
		noBest(t, s, api.ErrArg)
		for _, proof := range []api.Node{{}, node("c"), node("(ccc)")} {
			if ok, e := plan.Believes(s, exact.Q{}, proof); ok || e != api.ErrArg {
				t.Errorf("%s\nBelieves: %v, error %d", stockText(s), ok, e)
			}
		}
		for _, nodes := range []int{-1, 0, 1, 50, api.MaxNodes, api.MaxNodes + 1} {
			noSearch(t, s, nodes, api.ErrArg)
		}
	}
}
