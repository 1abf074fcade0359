package plan_test

import (
	"slices"
	"strconv"
	"strings"
	"testing"

	"voussoir/api"
	"voussoir/exact"
	"voussoir/plan"
)

// num returns the number of a text; it panics if there is none.
func num(s string) exact.Q {
	x, e := exact.Read(s)
	if e != api.OK {
		panic("not a number: " + s)
	}
	return x
}

// nums returns the numbers of a text, with blanks between them.
func nums(s string) []exact.Q {
	var list []exact.Q
	for _, word := range strings.Fields(s) {
		list = append(list, num(word))
	}
	return list
}

// whole returns the integer of a text; it panics if there is none.
func whole(s string) int {
	n, e := strconv.Atoi(s)
	if e != nil {
		panic(e)
	}
	return n
}

// bridge returns the bridge of a text: its risks, and after colons the cost and
// the factor of each option, such as 8 8 : 15 1/2.
func bridge(s string) plan.Bridge {
	parts := strings.Split(s, ":")
	b := plan.Bridge{Risks: nums(parts[0])}
	for _, part := range parts[1:] {
		pair := nums(part)
		b.Options = append(b.Options, plan.Option{Cost: pair[0], Factor: pair[1]})
	}
	return b
}

// stock returns the stock of texts: each one is a word for what it is about, and
// that itself.
func stock(texts ...string) plan.Stock {
	var s plan.Stock
	for _, text := range texts {
		word, rest, _ := strings.Cut(text, " ")
		switch word {
		case "budgets":
			s.Budgets = nums(rest)
		case "caps":
			s.Caps = nums(rest)
		case "bridge":
			s.Bridges = append(s.Bridges, bridge(rest))
		case "apart":
			a, b, _ := strings.Cut(rest, " ")
			s.Apart = append(s.Apart, [2]int{whole(a), whole(b)})
		default:
			panic("not a stock: " + text)
		}
	}
	return s
}

// example returns the stock of the document's first example, with more texts.
func example(more ...string) plan.Stock {
	return stock(append([]string{"budgets 10 10", "bridge 8 8 : 15 1/2", "bridge 6 6 : 10 0"}, more...)...)
}

// apart returns the stock of the document's fourth example, with more texts.
func apart(more ...string) plan.Stock {
	return example(append([]string{"budgets 25 0", "apart 0 1"}, more...)...)
}

// choices returns the choices of a text: - for none, or the number of an option
// and a year, such as - 0@1.
func choices(s string) []api.Choice {
	var list []api.Choice
	for _, word := range strings.Fields(s) {
		option, year, ok := strings.Cut(word, "@")
		if ok {
			list = append(list, api.Choice{Option: whole(option), Year: whole(year)})
		} else {
			list = append(list, api.Choice{Option: -1})
		}
	}
	return list
}

// choiceText returns choices as choices reads them.
func choiceText(list []api.Choice) string {
	var words []string
	for _, c := range list {
		if c == (api.Choice{Option: -1}) {
			words = append(words, "-")
		} else {
			words = append(words, strconv.Itoa(c.Option)+"@"+strconv.Itoa(c.Year))
		}
	}
	return strings.Join(words, " ")
}

// node returns the node of a text: c if it is cut, b if it is broken, or those of
// its children in brackets.
func node(s string) api.Node {
	n, rest := nodeAt(s)
	if rest != "" {
		panic("not a node: " + s)
	}
	return n
}

// nodeAt returns the node at the beginning of a text, and the rest of it.
func nodeAt(s string) (api.Node, string) {
	switch s[0] {
	case 'c':
		return api.Node{Kind: api.NodeCut}, s[1:]
	case 'b':
		return api.Node{Kind: api.NodeBroken}, s[1:]
	case '(':
		n, rest := api.Node{Kind: api.NodeSplit}, s[1:]
		for rest[0] != ')' {
			var child api.Node
			child, rest = nodeAt(rest)
			n.Children = append(n.Children, child)
		}
		return n, rest[1:]
	}
	panic("not a node: " + s)
}

// nodeText returns a node as node reads it.
func nodeText(n api.Node) string {
	var parts []string
	for _, child := range n.Children {
		parts = append(parts, nodeText(child))
	}
	children := strings.Join(parts, "")
	switch {
	case n.Kind == api.NodeSplit:
		return "(" + children + ")"
	case n.Kind == api.NodeCut && len(parts) == 0:
		return "c"
	case n.Kind == api.NodeBroken && len(parts) == 0:
		return "b"
	}
	return strconv.Itoa(int(n.Kind)) + "[" + children + "]"
}

// size returns how many nodes a node is with all that are below it.
func size(n api.Node) int {
	sum := 1
	for _, child := range n.Children {
		sum += size(child)
	}
	return sum
}

// numText returns numbers as nums reads them.
func numText(list []exact.Q) string {
	var words []string
	for _, x := range list {
		words = append(words, x.Text())
	}
	return strings.Join(words, " ")
}

// stockText returns a stock in the words of stock.
func stockText(s plan.Stock) string {
	lines := []string{"budgets " + numText(s.Budgets), "caps " + numText(s.Caps)}
	for _, b := range s.Bridges {
		line := "bridge " + numText(b.Risks)
		for _, o := range b.Options {
			line += " : " + numText([]exact.Q{o.Cost, o.Factor})
		}
		lines = append(lines, line)
	}
	for _, pair := range s.Apart {
		lines = append(lines, "apart "+strconv.Itoa(pair[0])+" "+strconv.Itoa(pair[1]))
	}
	return strings.Join(lines, "\n")
}

// resultText returns a result as a text: the risk, that of the years, and what is
// spent.
func resultText(r plan.Result) string {
	return r.Risk.Text() + "; " + numText(r.Yearly) + "; " + numText(r.Spent)
}

// cloned returns a stock that shares no memory with another one.
func cloned(s plan.Stock) plan.Stock {
	s.Budgets, s.Caps = slices.Clone(s.Budgets), slices.Clone(s.Caps)
	s.Bridges, s.Apart = slices.Clone(s.Bridges), slices.Clone(s.Apart)
	for i, b := range s.Bridges {
		s.Bridges[i] = plan.Bridge{Risks: slices.Clone(b.Risks), Options: slices.Clone(b.Options)}
	}
	return s
}

// nothingText is the text of the zero value of a result.
const nothingText = "0; ; "

// checkEvaluate checks what a plan gives.
func checkEvaluate(t *testing.T, s plan.Stock, list []api.Choice, want string) {
	t.Helper()
	if r, e := plan.Evaluate(s, list); e != api.OK || resultText(r) != want {
		t.Errorf("%s\nEvaluate of %v: error %d, %s, not %s", stockText(s), list, e, resultText(r), want)
	}
}

// noEvaluate checks that a plan is refused with an error.
func noEvaluate(t *testing.T, s plan.Stock, list []api.Choice, want api.Errno) {
	t.Helper()
	if r, e := plan.Evaluate(s, list); e != want || resultText(r) != nothingText {
		t.Errorf("%s\nEvaluate of %v: error %d, not %d, %s", stockText(s), list, e, want, resultText(r))
	}
}

// checkBest checks which plan is the best one, and its risk.
func checkBest(t *testing.T, s plan.Stock, want, risk string) {
	t.Helper()
	if list, x, e := plan.Best(s); e != api.OK || choiceText(list) != want || x.Cmp(num(risk)) != 0 {
		t.Errorf("%s\nBest: %s, %s, error %d, not %s, %s", stockText(s), choiceText(list), x.Text(), e, want, risk)
	}
}

// noBest checks that there is an error instead of a best plan, and a proof.
func noBest(t *testing.T, s plan.Stock, want api.Errno) {
	t.Helper()
	if list, x, e := plan.Best(s); e != want || len(list) != 0 || x.Sign() != 0 {
		t.Errorf("%s\nBest: %v, %s, error %d, not %d", stockText(s), list, x.Text(), e, want)
	}
	if n, e := plan.Prove(s); e != want || n.Kind != 0 || len(n.Children) != 0 {
		t.Errorf("%s\nProve: %s, error %d, not %d", stockText(s), nodeText(n), e, want)
	}
}

// checkBelieves checks whether a proof is believed.
func checkBelieves(t *testing.T, s plan.Stock, least string, proof api.Node, want bool) {
	t.Helper()
	if ok, e := plan.Believes(s, num(least), proof); e != api.OK || ok != want {
		t.Errorf("%s\nBelieves %s of %.200s: %v, error %d, not %v", stockText(s), least, nodeText(proof), ok, e, want)
	}
}

// noSearch checks that a search ends with an error.
func noSearch(t *testing.T, s plan.Stock, nodes int, want api.Errno) {
	t.Helper()
	f, e := plan.Search(s, nodes)
	if e != want || f.Some || len(f.Plan) != 0 || f.Risk.Sign() != 0 || f.Least.Sign() != 0 || f.Proof.Kind != 0 || len(f.Proof.Children) != 0 {
		t.Errorf("%s\nSearch with %d: error %d, not %d, %v", stockText(s), nodes, e, want, f)
	}
}
