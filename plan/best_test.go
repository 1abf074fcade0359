package plan_test

import (
	"math/rand"
	"slices"
	"testing"

	"voussoir/api"
)

func TestP10_3Examples(t *testing.T) {
	checkBest(t, example(), "- 0@0", "16")
	checkBest(t, example("caps 14 9"), "- 0@0", "16")
	noBest(t, example("caps 7 9"), api.ErrNoPlan)
	checkBest(t, apart(), "0@1 0@0", "12")
	checkBest(t, example("budgets 25 0"), "0@0 0@0", "8")
}

// TestP10_3Edges takes what is just allowed, and what is just not.
func TestP10_3Edges(t *testing.T) {
	checkBest(t, stock("budgets 0"), "", "0")
	checkBest(t, stock("budgets 1 2 3 4 5", "caps 0 0 0 0 0"), "", "0")
	checkBest(t, stock("budgets 1", "bridge 7"), "-", "7")
	checkBest(t, stock("budgets 1", "bridge 7", "caps 7"), "-", "7")
	noBest(t, stock("budgets 1", "bridge 7", "caps 69/10"), api.ErrNoPlan)
	checkBest(t, example("caps 8 8"), "- 0@0", "16")
	noBest(t, example("caps 8 79/10"), api.ErrNoPlan)
	high := []string{"budgets 5 0", "bridge 9 0 : 5 1/3", "bridge 2 9 : 5 0"}
	checkBest(t, stock(high...), "- 0@0", "9")
	checkBest(t, stock(append(high, "caps 5 9")...), "0@0 -", "14") // what is better does not keep to it
	noBest(t, stock(append(high, "caps 49/10 9")...), api.ErrNoPlan)
	checkBest(t, example("budgets 15 0"), "- 0@0", "16")
	checkBest(t, example("budgets 15 10"), "0@1 0@0", "12")
	checkBest(t, example("budgets 15 99/10"), "- 0@0", "16")
	noBest(t, example("budgets 15 10", "caps 99 39/10"), api.ErrNoPlan)
}

// TestP10_3Smallest takes stocks with several best plans.
func TestP10_3Smallest(t *testing.T) {
	checkBest(t, stock("budgets 0 0", "bridge 3 4 : 0 1", "bridge 0 0 : 0 0 : 0 1"), "- -", "7")       // nothing helps
	checkBest(t, stock("budgets 5 0", "bridge 0 4 : 5 1/2"), "0@0", "2")                               // in year 1 as well
	checkBest(t, stock("budgets 0 5", "bridge 0 4 : 5 1/2 : 5 1/2"), "0@1", "2")                       // the other one as well
	checkBest(t, stock("budgets 5 0", "bridge 0 4 : 6 1/2 : 4 1/2"), "1@0", "2")                       // only the other one can be paid
	checkBest(t, stock("budgets 5", "bridge 4 : 5 1/2", "bridge 4 : 5 1/2"), "- 0@0", "6")             // none comes first
	checkBest(t, stock("budgets 5", "bridge 4 : 5 1/2", "bridge 2 : 5 0", "bridge 3"), "- 0@0 -", "7") // so different ones
	checkBest(t, stock("budgets 5 0", "bridge 0 4 : 5 1/2", "bridge 2 2 : 4 1/2"), "- 0@0", "6")
	checkBest(t, stock("budgets 1 1", "bridge 0 4 : 1 0", "bridge 0 4 : 1 0", "apart 1 0"), "0@0 0@1", "0")
	checkBest(t, stock("budgets 2 2", "bridge 0 4 : 1 0 : 1 0", "bridge 0 4 : 1 0 : 2 0", "bridge 0 4 : 1 0"), "0@0 0@0 0@1", "0")
}

// TestP10_3Brute compares with all plans.
func TestP10_3Brute(t *testing.T) {
	r := rand.New(rand.NewSource(103))
	none, several := 0, 0
	for range 600 {
		s := someSmall(r)
		list, risk := bestOf(s)
		if risk == nil {
			none++
			noBest(t, s, api.ErrNoPlan)
			continue
		}
		checkBest(t, s, choiceText(list), ratText(risk))
		isOther := func(other []api.Choice) bool { return boundOf(s, other).Cmp(risk) == 0 && !slices.Equal(other, list) }
		if slices.ContainsFunc(allowedOf(s), isOther) {
			several++
		}
	}
	if none < 50 || several < 50 {
		t.Error("too few of a kind", none, several)
	}
}
