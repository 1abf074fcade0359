package plan_test

import (
	"math/rand"
	"slices"
	"testing"

	"voussoir/api"
	"voussoir/exact"
	"voussoir/plan"
)

// TestP10_4Examples believes proofs about the document's first example: none of
// the first bridge cuts all at 16, its option can not be paid in year 0.
func TestP10_4Examples(t *testing.T) {
	s := example()
	for _, text := range []string{
		"(cb(cbb))", "(cb(cbc))", "((ccc)b(cbb))", "(c(cbb)(cbb))", "((ccc)(cbb)(cbb))",
	} {
		checkBelieves(t, s, "16", node(text), true)
		checkBelieves(t, s, "-99", node(text), true)
		checkBelieves(t, s, "1600000000000000000000000000001/100000000000000000000000000000", node(text), false)
	}
	checkBelieves(t, s, "8", node("c"), true)
	checkBelieves(t, s, "0", node("c"), true)
	checkBelieves(t, s, "-1", node("c"), true)
	checkBelieves(t, s, "81/10", node("c"), false)
	for _, text := range []string{
		"b", "()", "(c)", "(cb)", "(cbc)", "(bbb)", "(ccc)", "(cc(cbb))", "(bb(cbb))", "(cb(cb))", "(cb(cbbb))", "(cb(ccb))", "(cb(bbb))",
		"(cb(cbb)c)", "((ccb)b(cbb))", "((cc)b(cbb))", "((bcc)b(cbb))", "(cb(bbb))", "(cb(cbb)b)", "((cc())b(cbb))", "(cb(cb()))", "((cc(ccc))b(cbb))",
	} {
		checkBelieves(t, s, "16", node(text), false)
	}
}

// TestP10_4Wrong takes nodes with children that they must not have, and kinds that
// there are not.
func TestP10_4Wrong(t *testing.T) {
	s := example()
	right := node("(cb(cbb))")
	for _, kind := range []api.NodeKind{0, 4, 5, 255} {
		checkBelieves(t, s, "-1", api.Node{Kind: kind}, false)
		checkBelieves(t, s, "16", api.Node{Kind: kind, Children: right.Children}, false)
		for i := range 3 {
			n := node("(cb(cbb))")
			n.Children[i].Kind = kind
			checkBelieves(t, s, "16", n, false)
		}
	}
	checkBelieves(t, s, "-1", api.Node{Kind: api.NodeCut, Children: node("(ccc)").Children}, false)
	checkBelieves(t, s, "16", api.Node{Kind: api.NodeCut, Children: right.Children}, false)
	for _, i := range []int{0, 1} {
		n := node("(cb(cbb))")
		n.Children[i].Children = node("(c)").Children
		checkBelieves(t, s, "16", n, false)
		n.Children[i].Children = node("(cbb)").Children
		checkBelieves(t, s, "16", n, false)
	}
	low := example("caps 7 9") // the empty beginning is broken: at least 4 and 0
	checkBelieves(t, example("caps 3 9"), "999", node("b"), true)
	checkBelieves(t, example("caps 4 9"), "0", node("b"), false)
	checkBelieves(t, example("caps 3 9"), "0", api.Node{Kind: api.NodeBroken, Children: right.Children}, false)
	checkBelieves(t, low, "999999", node("(bbb)"), true)
	checkBelieves(t, low, "999999", node("((bbb)(bbb)(bbb))"), true)
	checkBelieves(t, low, "0", node("c"), true)
}

// TestP10_4Broken takes beginnings that are broken by one condition alone.
func TestP10_4Broken(t *testing.T) {
	checkBelieves(t, example("budgets 15 0"), "999", node("(cbc)"), false)
	checkBelieves(t, example("budgets 149/10 0"), "8", node("(cbb)"), true)
	checkBelieves(t, example("budgets 149/10 1/10"), "8", node("(cbb)"), false)
	checkBelieves(t, example("budgets 149/10 1/10"), "8", node("(cbc)"), true)
	checkBelieves(t, example("caps 79/10 99"), "8", node("(bcb)"), true) // 8 in year 0, but for the option in year 0
	checkBelieves(t, example("caps 8 99"), "8", node("(bcc)"), false)    // the other bridge may get down to 0
	checkBelieves(t, example("caps 99 79/10"), "8", node("(bcc)"), true) // 8 in year 1 with no option
	checkBelieves(t, example("caps 99 39/10"), "999", node("(bbb)"), true)
	pair := apart("budgets 99 0")
	checkBelieves(t, pair, "12", node("(c(cbc)(ccb))"), true)
	checkBelieves(t, pair, "12", node("(c(cbc)(cbb))"), false)
	checkBelieves(t, pair, "12", node("(cbc)"), false) // what must be apart is not there yet
	far := stock("budgets 9", "bridge 1 : 1 0", "bridge 5", "bridge 1 : 1 0", "apart 2 0")
	checkBelieves(t, far, "6", node("(c((cb)))"), true)
	checkBelieves(t, far, "6", node("(c((cc)))"), false)
	checkBelieves(t, far, "6", node("(c(b))"), false)
	checkBelieves(t, far, "6", node("(cb)"), false)
}

// TestP10_4Prove believes what is proved of stocks at random, for the number of
// the best plan, and of no greater one.
func TestP10_4Prove(t *testing.T) {
	r := rand.New(rand.NewSource(104))
	proved := 0
	for range 500 {
		s := someSmall(r)
		_, risk := bestOf(s)
		if risk == nil {
			noBest(t, s, api.ErrNoPlan)
			continue
		}
		n, e := plan.Prove(s)
		if e != api.OK || !isRight(s, risk, nil, n) || size(n) > api.MaxNodes {
			t.Errorf("%s\nerror %d, %s does not prove %s", stockText(s), e, nodeText(n), ratText(risk))
		}
		checkBelieves(t, s, ratText(risk), n, true)
		checkBelieves(t, s, ratText(add(risk, rat(part(1, 1000000)))), n, false)
		proved += min(1, size(n)-1)
	}
	if proved < 100 {
		t.Error("too few proofs that are split", proved)
	}
	for s, want := range map[*plan.Stock]string{{Budgets: nums("0")}: "c", {Budgets: nums("1"), Caps: nums("0")}: "c"} {
		if n, e := plan.Prove(*s); e != api.OK || nodeText(n) != want {
			t.Errorf("%s\nerror %d, %s, not %s", stockText(*s), e, nodeText(n), want)
		}
	}
}

// TestP10_4Believes believes what is right, and nothing else, of proofs at random.
func TestP10_4Believes(t *testing.T) {
	r := rand.New(rand.NewSource(1040))
	count := map[bool]int{}
	for range 3000 {
		s := someSmall(r)
		var least exact.Q
		list := somePlan(r, s)
		least = num(ratText(boundOf(s, list[:r.Intn(len(list)+1)])))
		n := someProof(r, s, least, nil)
		want := isRight(s, rat(least), nil, n)
		checkBelieves(t, s, least.Text(), n, want)
		count[want] += min(1, size(n)-1)
	}
	if count[true] < 200 || count[false] < 200 {
		t.Error("too few of a kind", count)
	}
}

// full returns a proof in which all is split, and all plans are cut.
func full(s plan.Stock, bridge int) api.Node {
	if bridge == len(s.Bridges) {
		return api.Node{Kind: api.NodeCut}
	}
	n := api.Node{Kind: api.NodeSplit}
	for range choicesFor(s, bridge) {
		n.Children = append(n.Children, full(s, bridge+1))
	}
	return n
}

// TestP10_4Size takes the longest proof that is right, and longer ones, also one
// that has no end.
func TestP10_4Size(t *testing.T) {
	s := greatest()
	n := full(s, 0)
	if size(n) != 177156 {
		t.Error(size(n))
	}
	checkBelieves(t, s, "0", n, true)
	n.Children[10].Children[10].Children[10].Children[10].Children[10] = api.Node{Kind: api.NodeSplit}
	checkBelieves(t, s, "0", n, false)
	checkBelieves(t, s, "0", api.Node{Kind: api.NodeSplit, Children: make([]api.Node, api.MaxNodes+1)}, false)
	many := api.Node{Kind: api.NodeCut, Children: slices.Repeat([]api.Node{{Kind: api.NodeCut}}, api.MaxNodes)}
	checkBelieves(t, s, "0", many, false)
	for _, s := range []plan.Stock{stock("budgets 1"), stock("budgets 1", "bridge 1"), stock("budgets 1", "bridge 1", "bridge 2", "bridge 3")} {
		endless := api.Node{Kind: api.NodeSplit, Children: make([]api.Node, 1)}
		endless.Children[0] = endless
		if ok, e := plan.Believes(s, exact.Q{}, endless); ok || e != api.OK {
			t.Errorf("%s\n%v, error %d", stockText(s), ok, e)
		}
	}
}
