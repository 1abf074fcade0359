package plan_test

import (
	"math/rand"
	"slices"
	"strconv"
	"strings"
	"testing"

	"voussoir/api"
	"voussoir/exact"
	"voussoir/plan"
)

// told returns all that is told of a stock, a plan, a number, a proof and a number
// of nodes, as one text.
func told(s plan.Stock, list []api.Choice, least exact.Q, proof api.Node, nodes int) string {
	r, e1 := plan.Evaluate(s, list)
	best, risk, e2 := plan.Best(s)
	n, e3 := plan.Prove(s)
	ok, e4 := plan.Believes(s, least, proof)
	f, e5 := plan.Search(s, nodes)
	words := []string{resultText(r), choiceText(best), risk.Text(), nodeText(n), strconv.FormatBool(ok), strconv.FormatBool(f.Some),
		choiceText(f.Plan), f.Risk.Text(), f.Least.Text(), nodeText(f.Proof)}
	for _, e := range []api.Errno{plan.Check(s), e1, e2, e3, e4, e5} {
		words = append(words, strconv.Itoa(int(e)))
	}
	return strings.Join(words, "; ")
}

// quick computes with integers what the best plan of a stock is: budgets, costs
// and risks are whole, and stay so with all factors.
type quick struct {
	s     plan.Stock
	costs [][]int   // of each bridge, for each choice
	risks [][][]int // of each bridge, for each choice, in each year
	best  []int     // for each bridge the number of its choice
	least int
}

// integer returns a number that is an integer.
func integer(x exact.Q) int {
	n, ok := x.Int64()
	if !ok {
		panic("no integer: " + x.Text())
	}
	return int(n)
}

// quickOf returns the best plan of a stock, and its risk.
func quickOf(s plan.Stock) ([]api.Choice, int) {
	q := &quick{s: s, least: 1 << 62}
	for bridge, b := range s.Bridges {
		var costs []int
		var risks [][]int
		for _, c := range choicesFor(s, bridge) {
			cost, yearly := 0, []int{}
			if c.Option >= 0 {
				cost = integer(b.Options[c.Option].Cost)
			}
			for year := range s.Budgets {
				yearly = append(yearly, integer(num(ratText(riskIn(s, bridge, c, year)))))
			}
			costs, risks = append(costs, cost), append(risks, yearly)
		}
		q.costs, q.risks = append(q.costs, costs), append(q.risks, risks)
	}
	q.try(nil)
	var list []api.Choice
	for bridge, number := range q.best {
		list = append(list, choicesFor(s, bridge)[number])
	}
	return list, q.least
}

// year returns the year of a choice, or -1 for none.
func (q *quick) year(number int) int {
	if number == 0 {
		return -1
	}
	return (number - 1) % len(q.s.Budgets)
}

// try tries all plans that begin with some choices.
func (q *quick) try(list []int) {
	if len(list) < len(q.s.Bridges) {
		for number := range q.costs[len(list)] {
			q.try(append(list[:len(list):len(list)], number))
		}
		return
	}
	left, total := 0, 0
	for year := range q.s.Budgets {
		left += integer(q.s.Budgets[year])
		risk := 0
		for bridge, number := range list {
			risk += q.risks[bridge][number][year]
			if q.year(number) == year {
				left -= q.costs[bridge][number]
			}
		}
		if total += risk; left < 0 || len(q.s.Caps) > 0 && risk > integer(q.s.Caps[year]) {
			return
		}
	}
	for _, pair := range q.s.Apart {
		if year := q.year(list[pair[0]]); year >= 0 && year == q.year(list[pair[1]]) {
			return
		}
	}
	if total < q.least {
		q.best, q.least = list, total
	}
}

// TestP1Great asks all of stocks of the greatest size.
func TestP1Great(t *testing.T) {
	free := greatest()
	free.Apart = nil
	capped := greatest()
	capped.Caps = nums("20090 30030 50040 30020 20010")
	for _, s := range []plan.Stock{greatest(), free, capped} {
		list, least := quickOf(s)
		checkBest(t, s, choiceText(list), strconv.Itoa(least))
		n, e := plan.Prove(s)
		if e != api.OK {
			t.Errorf("%s\nerror %d", stockText(s), e)
		}
		checkBelieves(t, s, strconv.Itoa(least), n, true)
		checkBelieves(t, s, strconv.Itoa(least+1), n, false)
		f, e := plan.Search(s, api.MaxNodes)
		if e != api.OK || !f.Some || choiceText(f.Plan) != choiceText(list) || f.Risk.Cmp(f.Least) != 0 || f.Risk.Cmp(num(strconv.Itoa(least))) != 0 {
			t.Errorf("%s\nerror %d, %s, %s, at least %s", stockText(s), e, choiceText(f.Plan), f.Risk.Text(), f.Least.Text())
		}
		checkBelieves(t, s, strconv.Itoa(least), f.Proof, true)
	}
	if list, least := quickOf(example("bridge 10 20 : 3 1/2")); choiceText(list) != "- 0@0 0@1" || least != 36 {
		t.Error(list, least)
	}
}

// TestP1Long asks all of a stock of the greatest size with long numbers.
func TestP1Long(t *testing.T) {
	s := lengthened()
	list, risk, e := plan.Best(s)
	r, e2 := plan.Evaluate(s, list)
	if e != api.OK || e2 != api.OK || r.Risk.Cmp(risk) != 0 || resultText(r) != resultOf(s, list) {
		t.Errorf("%s\nerrors %d, %d", stockText(s), e, e2)
	}
	n, e := plan.Prove(s)
	if e != api.OK {
		t.Errorf("%s\nerror %d", stockText(s), e)
	}
	checkBelieves(t, s, risk.Text(), n, true)
	for _, nodes := range []int{1, 2000} {
		f, e := plan.Search(s, nodes)
		if e != api.OK || size(f.Proof) > nodes || f.Some && f.Risk.Cmp(risk) < 0 || f.Least.Cmp(risk) > 0 {
			t.Errorf("%s\nSearch with %d: error %d", stockText(s), nodes, e)
		}
		checkBelieves(t, s, f.Least.Text(), f.Proof, true)
	}
}

// TestR4ArgumentsStay checks that no function changes its arguments, and R10:
// that the same is told again.
func TestR4ArgumentsStay(t *testing.T) {
	r := rand.New(rand.NewSource(4))
	list := []plan.Stock{example(), apart(), example("caps 14 9"), example("caps 7 9")}
	for range 30 {
		list = append(list, someSmall(r))
	}
	for _, s := range list {
		before := stockText(s)
		p, nodes := somePlan(r, s), 1+r.Intn(100)
		least := num(ratText(boundOf(s, p)))
		proof := someProof(r, s, least, nil)
		arguments := choiceText(p) + least.Text() + nodeText(proof)
		text := told(s, p, least, proof, nodes)
		for range 3 {
			if again := told(s, p, least, proof, nodes); again != text {
				t.Errorf("%s\nthen\n%s", text, again)
			}
		}
		if after := stockText(s); after != before || choiceText(p)+least.Text()+nodeText(proof) != arguments {
			t.Errorf("%s\nbecame\n%s", before, after)
		}
	}
}

// roomy returns a list with room behind it, in which there is something.
func roomy[T any](list []T, x T) []T {
	long := append(slices.Clone(list), x, x, x, x, x, x, x, x, x, x)
	return long[:len(list)]
}

// areStill reports whether there is still the same behind a list.
func areStill[T any](list []T, isIt func(x T) bool) bool {
	isOther := func(x T) bool { return !isIt(x) }
	return !slices.ContainsFunc(list[len(list):len(list)+10], isOther)
}

// TestR4RoomStays checks that what is behind the lists of arguments stays as well.
func TestR4RoomStays(t *testing.T) {
	is77 := func(x exact.Q) bool { return x.Cmp(num("77")) == 0 }
	other := plan.Option{Cost: num("77"), Factor: num("77")}
	for _, s := range []plan.Stock{example("caps 14 9"), apart("caps 14 9"), apart("caps 14/3 9/5", "bridge 1 1/2 : 1/3 1/5")} {
		s.Budgets, s.Caps, s.Apart = roomy(s.Budgets, num("77")), roomy(s.Caps, num("77")), roomy(s.Apart, [2]int{77, 77})
		s.Bridges = roomy(s.Bridges, plan.Bridge{Risks: nums("77")})
		for i, b := range s.Bridges {
			s.Bridges[i] = plan.Bridge{Risks: roomy(b.Risks, num("77")), Options: roomy(b.Options, other)}
		}
		list := roomy(somePlan(rand.New(rand.NewSource(4)), s), api.Choice{Option: 77})
		proof := node("(cb(cbb))")
		proof.Children = roomy(proof.Children, api.Node{Kind: 77})
		told(s, list, num("16"), proof, 5)
		ok := areStill(s.Budgets, is77) && areStill(s.Caps, is77) &&
			areStill(s.Apart, func(p [2]int) bool { return p == [2]int{77, 77} }) &&
			areStill(s.Bridges, func(b plan.Bridge) bool { return len(b.Risks) == 1 && is77(b.Risks[0]) }) &&
			areStill(list, func(c api.Choice) bool { return c == api.Choice{Option: 77} }) &&
			areStill(proof.Children, func(n api.Node) bool { return n.Kind == 77 })
		for _, b := range s.Bridges {
			ok = ok && areStill(b.Risks, is77) && areStill(b.Options, func(o plan.Option) bool { return is77(o.Cost) && is77(o.Factor) })
		}
		if !ok {
			t.Errorf("%s\nsomething behind a list was changed", stockText(s))
		}
	}
}

// spoil overwrites a list, also where there is room behind it.
func spoil[T any](list []T, x T) {
	list = list[:cap(list)]
	for i := range list {
		list[i] = x
	}
}

// spoilNode overwrites a node and all below it, one after the other.
func spoilNode(n api.Node) {
	for _, child := range n.Children {
		spoilNode(child)
	}
	spoil(n.Children, api.Node{Kind: 77})
}

// TestR4ResultsAreNew overwrites results: nothing else changes with them.
func TestR4ResultsAreNew(t *testing.T) {
	for _, s := range []plan.Stock{example(), stock("budgets 1 2"), stock("budgets 1 1", "bridge 7 8", "caps 9 9"), apart()} {
		before := stockText(s)
		list, risk, _ := plan.Best(s)
		want, number := choiceText(list), risk.Text()
		result := resultOf(s, list)
		for range 2 {
			checkBest(t, s, want, number)
			spoil(list, api.Choice{Option: 77})
			r, _ := plan.Evaluate(s, choices(want))
			spoil(r.Yearly, num("77"))
			if spent := numText(r.Spent); !strings.HasSuffix(result, "; "+spent) {
				t.Errorf("%s is spent, not as in %s", spent, result)
			}
			spoil(r.Spent, num("77"))
			checkEvaluate(t, s, choices(want), result)
			n, _ := plan.Prove(s)
			spoilNode(n)
			f, _ := plan.Search(s, api.MaxNodes)
			spoil(f.Plan, api.Choice{Option: 77})
			checkBelieves(t, s, number, f.Proof, true)
			spoilNode(f.Proof)
			n, _ = plan.Prove(s)
			checkBelieves(t, s, number, n, true)
			checkWholeSearch(t, s)
		}
		if stockText(s) != before {
			t.Errorf("%s\nbecame\n%s", before, stockText(s))
		}
	}
}

// TestR4NodesAreNew checks that no node shares its children with another one.
func TestR4NodesAreNew(t *testing.T) {
	s := stock("budgets 1 1", "bridge 9 9 : 1 0", "bridge 8 9 : 1 0", "bridge 9 7 : 1 1/2")
	n, _ := plan.Prove(s)
	f, _ := plan.Search(s, 40)
	for _, proof := range []api.Node{n, f.Proof} {
		seen := map[*api.Node]bool{}
		var look func(n api.Node)
		look = func(n api.Node) {
			for i := range n.Children {
				if seen[&n.Children[i]] {
					t.Error("a child of two nodes")
				}
				seen[&n.Children[i]] = true
				look(n.Children[i])
			}
		}
		look(proof)
		if len(seen) < 10 {
			t.Error("too few nodes", len(seen))
		}
	}
}

// TestR3Empty checks that lists that are empty mean the same as none.
func TestR3Empty(t *testing.T) {
	s := stock("budgets 3 4", "bridge 1 2", "bridge 3 4 : 5 1/2")
	empty := cloned(s)
	empty.Caps, empty.Apart, empty.Bridges[0].Options = []exact.Q{}, [][2]int{}, []plan.Option{}
	proof := node("((bbc))")
	emptied := node("((bbc))")
	for i := range 3 {
		emptied.Children[0].Children[i].Children = []api.Node{}
	}
	a, b := told(s, choices("- 0@1"), num("1"), proof, 3), told(empty, choices("- 0@1"), num("1"), emptied, 3)
	if a != b {
		t.Errorf("%s\nand\n%s", a, b)
	}
	checkBelieves(t, empty, "8", node("((cbc))"), true)
	nothing := plan.Stock{Bridges: []plan.Bridge{}, Budgets: nums("1"), Caps: []exact.Q{}, Apart: [][2]int{}}
	a = told(nothing, []api.Choice{}, num("0"), api.Node{Kind: api.NodeCut, Children: []api.Node{}}, 1)
	if b := told(stock("budgets 1"), nil, num("0"), node("c"), 1); a != b {
		t.Errorf("%s\nand\n%s", a, b)
	}
	if want := "0; 0; 0; ; 0; c; true; true; ; 0; 0; c; 0; 0; 0; 0; 0; 0"; a != want {
		t.Errorf("%s\nnot\n%s", a, want)
	}
}
