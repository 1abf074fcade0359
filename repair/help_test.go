package repair_test

import (
	"slices"
	"strconv"
	"strings"
	"testing"

	"voussoir/api"
	"voussoir/exact"
	"voussoir/repair"
)

// num returns the number of a text; it panics if there is none.
func num(s string) exact.Q {
	x, e := exact.Read(s)
	if e != api.OK {
		panic("not a number: " + s)
	}
	return x
}

// part returns a fraction whose denominator is not 0.
func part(a, b int) exact.Q {
	x, _ := exact.Of(int64(a), int64(b))
	return x
}

// ints returns the integers of a text, with blanks between them.
func ints(s string) []int {
	var list []int
	for _, word := range strings.Fields(s) {
		n, e := strconv.Atoi(word)
		if e != nil {
			panic(e)
		}
		list = append(list, n)
	}
	return list
}

// pushes returns the pushes of a text: two integers of each joint.
func pushes(s string) []api.Push {
	var list []api.Push
	for pair := range slices.Chunk(ints(s), 2) {
		list = append(list, api.Push{X: pair[0], Y: pair[1]})
	}
	return list
}

// bools returns the bools of a text: 1 for true, and 0 for false.
func bools(s string) []bool {
	var list []bool
	for _, c := range s {
		list = append(list, c == '1')
	}
	return list
}

// joint returns a joint that is held in the directions of a text.
func joint(x, y int, held string) api.Joint {
	return api.Joint{X: x, Y: y, FixX: strings.Contains(held, "x"), FixY: strings.Contains(held, "y")}
}

// bar returns a bar of the stiffness 1, with what it bears.
func bar(a, b, tension, squash int) api.Bar {
	return api.Bar{A: a, B: b, Stiff: 1, Tension: tension, Squash: squash}
}

// kinds returns the names of the kinds of steps, each at the place of its number.
func kinds() []string { return []string{"none", "take", "put", "hold", "let", "act"} }

// step returns the step of a text: its kind, what it is about (for act: the
// pushes), and what must be done before, such as put 2 after 0 1.
func step(s string) repair.Step {
	what, after, _ := strings.Cut(s, " after")
	name, rest, _ := strings.Cut(what, " ")
	kind := slices.Index(kinds(), name)
	if kind < 1 {
		panic("not a step: " + s)
	}
	st := repair.Step{Kind: api.StepKind(kind), After: ints(after)}
	if st.Kind == api.Act {
		st.Pushes = pushes(rest)
	} else {
		st.At = ints(rest)[0]
	}
	return st
}

// steps returns the steps of texts.
func steps(texts ...string) []repair.Step {
	var list []repair.Step
	for _, s := range texts {
		list = append(list, step(s))
	}
	return list
}

// hanging returns the job of the document's first example, with other steps.
func hanging(texts ...string) repair.Job {
	return repair.Job{
		Truss: api.Truss{
			Joints: []api.Joint{joint(0, 0, "xy"), joint(4, 0, "xy"), joint(0, 3, "")},
			Bars:   []api.Bar{bar(0, 2, 6, 5), bar(1, 2, 6, 5), bar(1, 2, 6, 5)},
		},
		Absent: bools("001"),
		Pushes: pushes("0 0 0 0 12 0"),
		Steps:  steps(texts...),
		Margin: exact.Int(1),
	}
}

// example returns the job of the document's first example, with some margin.
func example(margin string) repair.Job {
	j := hanging("take 1", "put 2")
	j.Margin = num(margin)
	return j
}

// spread returns a job of so many steps, in which each set but that of all steps
// is safe: of many bars that do the same at most one may be missing in the end.
func spread(count int) repair.Job {
	j := hanging()
	j.Truss.Bars, j.Absent = j.Truss.Bars[:1], []bool{false}
	for i := range count {
		j.Truss.Bars = append(j.Truss.Bars, bar(1, 2, 6, 5))
		j.Absent = append(j.Absent, false)
		j.Steps = append(j.Steps, repair.Step{Kind: api.Take, At: i + 1})
	}
	return j
}

// cloned returns a job that shares no memory with another one.
func cloned(j repair.Job) repair.Job {
	j.Truss = api.Truss{Joints: slices.Clone(j.Truss.Joints), Bars: slices.Clone(j.Truss.Bars)}
	j.Absent, j.Pushes, j.Steps = slices.Clone(j.Absent), slices.Clone(j.Pushes), slices.Clone(j.Steps)
	for i, s := range j.Steps {
		j.Steps[i].Pushes, j.Steps[i].After = slices.Clone(s.Pushes), slices.Clone(s.After)
	}
	return j
}

// intText returns integers as ints reads them.
func intText(list []int) string {
	var words []string
	for _, n := range list {
		words = append(words, strconv.Itoa(n))
	}
	return strings.Join(words, " ")
}

// boolText returns bools as bools reads them.
func boolText(list []bool) string {
	var text []byte
	for _, b := range list {
		text = append(text, "01"[slices.Index([]bool{false, true}, b)])
	}
	return string(text)
}

// pushText returns pushes as pushes reads them.
func pushText(list []api.Push) string {
	var numbers []int
	for _, p := range list {
		numbers = append(numbers, p.X, p.Y)
	}
	return intText(numbers)
}

// sets returns the sets of a text, such as {} {0} {0 1}.
func sets(s string) [][]int {
	var list [][]int
	for _, set := range strings.Split(s, "}") {
		if _, numbers, ok := strings.Cut(set, "{"); ok {
			list = append(list, ints(numbers))
		}
	}
	return list
}

// setText returns sets as sets reads them.
func setText(list [][]int) string {
	var words []string
	for _, set := range list {
		words = append(words, "{"+intText(set)+"}")
	}
	return strings.Join(words, " ")
}

// stepText returns a step as step reads it.
func stepText(s repair.Step) string {
	name := strconv.Itoa(int(s.Kind))
	if int(s.Kind) < len(kinds()) {
		name = kinds()[s.Kind]
	}
	return name + " " + strconv.Itoa(s.At) + " [" + pushText(s.Pushes) + "] after " + intText(s.After)
}

// jobText returns a job as a text.
func jobText(j repair.Job) string {
	var lines []string
	for _, p := range j.Truss.Joints {
		lines = append(lines, "joint "+intText([]int{p.X, p.Y})+" "+boolText([]bool{p.FixX, p.FixY}))
	}
	for _, b := range j.Truss.Bars {
		lines = append(lines, "bar "+intText([]int{b.A, b.B, b.Stiff, b.Tension, b.Squash}))
	}
	lines = append(lines, "absent "+boolText(j.Absent)+", pushes "+pushText(j.Pushes)+", margin "+j.Margin.Text())
	for i, s := range j.Steps {
		lines = append(lines, strconv.Itoa(i)+": "+stepText(s))
	}
	return strings.Join(lines, "\n")
}

// stageText returns a stage as a text: the bars that are there, the directions
// that are held, the pushes, and whether it moves or what is over.
func stageText(g repair.Stage) string {
	end := "over " + strconv.Itoa(g.Over)
	if g.Moves {
		end = "moves, " + end
	}
	return boolText(g.There) + ", " + boolText(g.Held) + ", " + pushText(g.Pushes) + ", " + end
}

// isNothing reports whether a stage has its zero value.
func isNothing(g repair.Stage) bool {
	return len(g.There)+len(g.Held)+len(g.Pushes)+g.Over == 0 && !g.Moves
}

// checkLook checks what a set of steps makes of a truss.
func checkLook(t *testing.T, j repair.Job, done, want string) {
	t.Helper()
	if g, e := repair.Look(j, ints(done)); e != api.OK || stageText(g) != want {
		t.Errorf("%s\nLook of {%s}: error %d, %s, not %s", jobText(j), done, e, stageText(g), want)
	}
}

// noLook checks that a list is refused with an error.
func noLook(t *testing.T, j repair.Job, done []int, want api.Errno) {
	t.Helper()
	if g, e := repair.Look(j, done); e != want || !isNothing(g) {
		t.Errorf("%s\nLook of %v: error %d, not %d, %s", jobText(j), done, e, want, stageText(g))
	}
}

// checkWalk checks how far an order can be carried out.
func checkWalk(t *testing.T, j repair.Job, order []int, want int, wanted api.Errno) {
	t.Helper()
	if done, e := repair.Walk(j, order); e != wanted || done != want {
		t.Errorf("%s\nWalk of %v: %d, error %d, not %d, error %d", jobText(j), order, done, e, want, wanted)
	}
}

// checkOrder checks which order is found; ErrNone stands for none.
func checkOrder(t *testing.T, j repair.Job, want string, wanted api.Errno) {
	t.Helper()
	if order, e := repair.Order(j); e != wanted || intText(order) != want {
		t.Errorf("%s\nOrder: %v, error %d, not %s, error %d", jobText(j), order, e, want, wanted)
	}
}

// checkReach checks which sets can be reached.
func checkReach(t *testing.T, j repair.Job, want string) {
	t.Helper()
	if list, e := repair.Reach(j); e != api.OK || setText(list) != want {
		t.Errorf("%s\nReach: %s, error %d, not %s", jobText(j), setText(list), e, want)
	}
}

// checkProves checks whether sets prove that there is no order.
func checkProves(t *testing.T, j repair.Job, list [][]int, want bool) {
	t.Helper()
	if ok, e := repair.Proves(j, list); e != api.OK || ok != want {
		t.Errorf("%s\nProves of %s: %v, error %d, not %v", jobText(j), setText(list), ok, e, want)
	}
}
