package plan_test

import (
	"math/rand"
	"testing"

	"voussoir/api"
	"voussoir/exact"
	"voussoir/plan"
)

// checkSearch checks all that is promised of a search, and returns what it found.
func checkSearch(t *testing.T, s plan.Stock, nodes int) plan.Found {
	t.Helper()
	f, e := plan.Search(s, nodes)
	if e != api.OK || size(f.Proof) > nodes || !isRight(s, rat(f.Least), nil, f.Proof) {
		t.Errorf("%s\nSearch with %d: error %d, %s does not prove %s", stockText(s), nodes, e, nodeText(f.Proof), f.Least.Text())
	}
	if !f.Some {
		if len(f.Plan) != 0 || f.Risk.Sign() != 0 {
			t.Errorf("%s\nSearch with %d: no plan, but %s, %s", stockText(s), nodes, choiceText(f.Plan), f.Risk.Text())
		}
		return f
	}
	if r, e := plan.Evaluate(s, f.Plan); e != api.OK || r.Risk.Cmp(f.Risk) != 0 || f.Least.Cmp(f.Risk) > 0 {
		t.Errorf("%s\nSearch with %d: %s, %s, at least %s; error %d, %s", stockText(s), nodes,
			choiceText(f.Plan), f.Risk.Text(), f.Least.Text(), e, resultText(r))
	}
	return f
}

// checkWholeSearch checks a search with all nodes: the plan of Best, and its
// risk, or that there is none.
func checkWholeSearch(t *testing.T, s plan.Stock) {
	t.Helper()
	f := checkSearch(t, s, api.MaxNodes)
	list, risk, e := plan.Best(s)
	if f.Some != (e == api.OK) || choiceText(f.Plan) != choiceText(list) || f.Risk.Cmp(risk) != 0 || f.Some && f.Least.Cmp(risk) != 0 {
		t.Errorf("%s\nSearch: %s, %s, at least %s; Best: %s, %s, error %d", stockText(s),
			choiceText(f.Plan), f.Risk.Text(), f.Least.Text(), choiceText(list), risk.Text(), e)
	}
}

func TestP10_5Examples(t *testing.T) {
	for _, s := range []plan.Stock{example(), apart(), example("caps 14 9"), example("caps 7 9"), example("caps 3 9"), stock("budgets 0"), greatest()} {
		for _, nodes := range []int{1, 2, 3, 4, 5, 6, 7, 8, 10, 20, 100} {
			checkSearch(t, s, nodes)
		}
		if len(s.Budgets) < api.MaxHorizon { // the greatest one is searched elsewhere
			checkWholeSearch(t, s)
		}
	}
	f := checkSearch(t, example(), api.MaxNodes)
	if !f.Some || choiceText(f.Plan) != "- 0@0" || f.Risk.Text() != "16" || f.Least.Text() != "16" {
		t.Error(f)
	}
	if f := checkSearch(t, example("caps 7 9"), api.MaxNodes); f.Some {
		t.Error(f)
	}
}

// TestP10_5Range takes numbers of nodes that there can not be.
func TestP10_5Range(t *testing.T) {
	for _, s := range []plan.Stock{example(), example("caps 3 9"), stock("budgets 0"), greatest()} {
		for _, nodes := range append(extremes(), -1, 0, api.MaxNodes+1) {
			noSearch(t, s, nodes, api.ErrRange)
		}
		checkSearch(t, s, 1)
	}
	checkWholeSearch(t, example())
}

// TestP10_5Some searches stocks at random with few nodes, and with all.
func TestP10_5Some(t *testing.T) {
	r := rand.New(rand.NewSource(105))
	count := map[string]int{}
	for range 400 {
		s := someSmall(r)
		for range 4 {
			checkSearch(t, s, 1+r.Intn(1+r.Intn(200)))
		}
		checkWholeSearch(t, s)
		if f, _ := plan.Search(s, api.MaxNodes); f.Some {
			count["some"]++
		} else {
			count["none"]++
		}
	}
	if count["some"] < 100 || count["none"] < 40 {
		t.Error("too few of a kind", count)
	}
}

// TestP10_5Greater searches stocks with more plans than can be tried here.
func TestP10_5Greater(t *testing.T) {
	r := rand.New(rand.NewSource(1050))
	for range 12 {
		s := someStock(r, api.MaxStock, api.MaxHorizon)
		for len(s.Bridges) < 4 {
			s = someStock(r, api.MaxStock, api.MaxHorizon)
		}
		for _, nodes := range []int{1, 12, 50, 300} {
			checkSearch(t, s, nodes)
		}
		f, e := plan.Search(s, api.MaxNodes)
		list, risk, e2 := plan.Best(s)
		if e != api.OK || f.Some != (e2 == api.OK) || choiceText(f.Plan) != choiceText(list) || f.Risk.Cmp(risk) != 0 {
			t.Errorf("%s\nSearch: %s, %s, error %d; Best: %s, %s, error %d", stockText(s),
				choiceText(f.Plan), f.Risk.Text(), e, choiceText(list), risk.Text(), e2)
		}
		if f.Some && f.Least.Cmp(risk) != 0 {
			t.Errorf("%s\nat least %s, not %s", stockText(s), f.Least.Text(), risk.Text())
		}
		checkBelieves(t, s, f.Least.Text(), f.Proof, true)
		if f.Some {
			checkBelieves(t, s, f.Least.Plus(exact.Int(1)).Text(), f.Proof, false)
		}
	}
}
