package plan_test

import (
	"math/rand"
	"slices"
	"testing"

	"voussoir/api"
	"voussoir/exact"
	"voussoir/plan"
)

// someLarge returns a stock at random with 4 or 5 bridges.
func someLarge(r *rand.Rand) plan.Stock {
	for {
		if s := someStock(r, api.MaxStock, api.MaxHorizon); len(s.Bridges) >= 4 {
			return s
		}
	}
}

// TestP10_6NothingBetter evaluates many plans of stocks that have more of them
// than can be tried here.
func TestP10_6NothingBetter(t *testing.T) {
	r := rand.New(rand.NewSource(106))
	allowed, none := 0, 0
	for range 40 {
		s := someLarge(r)
		_, risk, e := plan.Best(s)
		none += int(min(e, 1))
		for range 300 {
			list := somePlan(r, s)
			got, e2 := plan.Evaluate(s, list)
			if e2 != api.OK {
				continue
			}
			allowed++
			if e != api.OK || got.Risk.Cmp(risk) < 0 {
				t.Errorf("%s\n%s has the risk %s, Best %s, error %d", stockText(s), choiceText(list), got.Risk.Text(), risk.Text(), e)
			}
		}
	}
	if allowed < 1000 || none < 1 {
		t.Error("too few of a kind", allowed, none)
	}
}

// TestP10_6Believed compares numbers whose proofs are believed with all allowed
// plans.
func TestP10_6Believed(t *testing.T) {
	r := rand.New(rand.NewSource(1060))
	believed := 0
	for range 1500 {
		s := someSmall(r)
		list := somePlan(r, s)
		least := num(ratText(boundOf(s, list[:r.Intn(len(list)+1)])))
		ok, e := plan.Believes(s, least, someProof(r, s, least, nil))
		if e != api.OK || !ok {
			continue
		}
		believed++
		if best, risk := bestOf(s); risk != nil && risk.Cmp(rat(least)) < 0 {
			t.Errorf("%s\nat least %s is believed, and %s has %s", stockText(s), least.Text(), choiceText(best), ratText(risk))
		}
	}
	if believed < 300 {
		t.Error("too few are believed", believed)
	}
}

// more returns a stock with more means than another one.
func more(r *rand.Rand, s plan.Stock) plan.Stock {
	s = cloned(s)
	switch kind := r.Intn(4); {
	case kind == 0 && len(s.Apart) > 0:
		at := r.Intn(len(s.Apart))
		s.Apart = slices.Delete(s.Apart, at, at+1)
	case kind == 1 && len(s.Caps) > 0:
		year := r.Intn(len(s.Caps))
		s.Caps[year] = s.Caps[year].Plus(someNum(r, 4))
	case kind == 2 && len(s.Bridges) > 0:
		b := &s.Bridges[r.Intn(len(s.Bridges))]
		if len(b.Options) < api.MaxChoices {
			other := someBridge(r, len(s.Budgets), 1).Options
			b.Options = slices.Insert(b.Options, r.Intn(len(b.Options)+1), other...)
		}
	default:
		year := r.Intn(len(s.Budgets))
		s.Budgets[year] = s.Budgets[year].Plus(someNum(r, 4))
	}
	return s
}

// TestP10_7MoreMeans gives stocks more means: the risk does not get greater.
func TestP10_7MoreMeans(t *testing.T) {
	r := rand.New(rand.NewSource(107))
	less, first := 0, 0
	for range 120 {
		s := someStock(r, api.MaxStock, 3)
		_, risk, e := plan.Best(s)
		for range 6 {
			next := more(r, s)
			_, risk2, e2 := plan.Best(next)
			switch {
			case e == api.OK && (e2 != api.OK || risk2.Cmp(risk) > 0):
				t.Errorf("%s\nhas %s, but\n%s\n%s, error %d", stockText(s), risk.Text(), stockText(next), risk2.Text(), e2)
			case e == api.OK && risk2.Cmp(risk) < 0:
				less++
			case e != api.OK && e2 == api.OK:
				first++
			}
			s, risk, e = next, risk2, e2
		}
	}
	if less < 40 || first < 5 {
		t.Error("too few of a kind", less, first)
	}
}

// TestP10_7Examples gives the document's examples more means.
func TestP10_7Examples(t *testing.T) {
	steps := []struct {
		s    plan.Stock
		risk string
	}{
		{example("caps 8 8", "budgets 10 0", "apart 0 1"), "16"},
		{example("caps 8 8", "budgets 10 15", "apart 0 1"), "12"},
		{example("caps 10 10", "budgets 25 15", "apart 0 1"), "12"},
		{example("caps 10 10", "budgets 25 15"), "8"},
		{example("caps 10 10", "budgets 25 15", "bridge 0 0 : 1 1"), "8"},
	}
	for _, step := range steps {
		if _, risk, e := plan.Best(step.s); e != api.OK || risk.Cmp(num(step.risk)) != 0 {
			t.Errorf("%s\n%s, error %d, not %s", stockText(step.s), risk.Text(), e, step.risk)
		}
	}
	s := example("caps 8 8", "budgets 10 0")
	s.Bridges[1].Options = append(s.Bridges[1].Options, plan.Option{Cost: num("1"), Factor: exact.Q{}})
	s.Bridges[0].Options = append(s.Bridges[0].Options, plan.Option{Cost: num("9"), Factor: num("1/4")})
	checkBest(t, s, "1@0 1@0", "4")
}
