package crack_test

import (
	"math/rand"
	"slices"
	"strconv"
	"strings"
	"testing"

	"voussoir/api"
	"voussoir/crack"
	"voussoir/exact"
)

// longQ returns a number with many digits above and below.
func longQ(r *rand.Rand, digits int) exact.Q {
	some := func() string {
		text := []byte{'1' + byte(r.Intn(9))}
		for range digits - 1 {
			text = append(text, '0'+byte(r.Intn(10)))
		}
		return string(text)
	}
	x, _ := num(some()).Over(num(some()))
	return x
}

// greatLaw returns a law of as many steps as there may be, with different
// fractions everywhere.
func greatLaw(r *rand.Rand, digits int) []crack.Step {
	var s crack.Step
	var l []crack.Step
	for range api.MaxGrowth {
		s.Grow.Low, s.Grow.High = s.Grow.Low.Plus(longQ(r, digits)), s.Grow.High.Plus(longQ(r, digits)).Plus(longQ(r, digits))
		s.Grow = exact.Between(s.Grow.Low, s.Grow.High)
		l = append(l, s)
		s.From = s.From.Plus(longQ(r, digits))
	}
	return l
}

// TestP1GreatWatch watches as many elements as there may be.
func TestP1GreatWatch(t *testing.T) {
	r := rand.New(rand.NewSource(1))
	for _, grid := range []exact.Q{{}, longQ(r, 12)} {
		var laws [][]crack.Step
		for range api.MaxTeams {
			laws = append(laws, greatLaw(r, 5))
		}
		w, e := crack.NewWatch(laws, grid)
		if e != api.OK {
			t.Fatal(e)
		}
		for n := range api.MaxCracked {
			low := longQ(r, 9)
			if e := w.Add("n"+strconv.Itoa(n), n%len(laws), exact.Span{Low: low, High: low.Plus(longQ(r, 9))}, whole(1<<40)); e != api.OK {
				t.Fatal(e)
			}
		}
		w.Tick()
		due := w.Due()
		for _, d := range due {
			size, _ := w.Size(d.Name)
			n, _ := strconv.Atoi(d.Name[1:])
			checkDeadline(t, laws[n%len(laws)], size, whole(1<<40), grid, d.Deadline)
		}
		if len(due) != api.MaxCracked || len(w.Alarms()) != 0 {
			t.Errorf("%d elements, alarms %v", len(due), w.Alarms())
		}
	}
}

// TestP1GreatTasks plans as many jobs as there may be, for as many teams and
// periods, with hardly enough slots or too few.
func TestP1GreatTasks(t *testing.T) {
	r := rand.New(rand.NewSource(11))
	count := map[bool]int{}
	for range 40 {
		var j []api.Job
		for range api.MaxJobs {
			j = append(j, api.Job{Access: r.Intn(8), Deadline: r.Intn(api.MaxCalendar)})
		}
		var crew []api.Team
		for range api.MaxTeams {
			crew = append(crew, api.Team{Skills: uint8(r.Intn(256) | r.Intn(256)), Slots: make([]int, api.MaxCalendar)})
		}
		for range api.MaxJobs + 25 + r.Intn(30) {
			crew[r.Intn(len(crew))].Slots[r.Intn(api.MaxCalendar)]++
		}
		want, found := smallestPlan(j, crew)
		count[found]++
		if found {
			checkPlan(t, j, crew, visitTexts(want))
			continue
		}
		block, e := crack.Block(j, crew)
		if _, none := crack.Plan(j, crew); none != api.ErrCrew || e != api.OK || !isBlock(j, crew, block) {
			t.Fatalf("%s: error %d, %v, error %d", taskText(j, crew), none, block, e)
		}
	}
	if count[true] < 5 || count[false] < 5 {
		t.Error("too few of a kind", count)
	}
}

// TestR3NilWatch checks that methods of a nil watch do nothing.
func TestR3NilWatch(t *testing.T) {
	var w *crack.Watch
	w.Tick()
	if e := w.Add("a", 0, span("1..2"), num("9")); e != api.ErrNil {
		t.Errorf("Add: error %d", e)
	}
	if e := w.Add("", -1, span("2..1"), num("-9")); e != api.ErrNil {
		t.Errorf("Add: error %d", e)
	}
	if s, e := w.Size("a"); e != api.ErrNil || !isZero(s) {
		t.Errorf("Size: %s, error %d", spanText(s), e)
	}
	for _, findings := range []string{"", "1..2", "2..1"} {
		if a, e := w.Inspect("a", spans(findings)); e != api.ErrNil || !isNothing(a) {
			t.Errorf("Inspect: %s, error %d", agreementText(a), e)
		}
	}
	for _, size := range []string{"1..2", "2..1"} {
		if e := w.Repair("a", span(size)); e != api.ErrNil {
			t.Errorf("Repair: error %d", e)
		}
	}
	if due, alarms := w.Due(), w.Alarms(); due != nil || alarms != nil {
		t.Errorf("%v, %v", due, alarms)
	}
}

// TestR3Empty checks that lists that are empty mean the same as none.
func TestR3Empty(t *testing.T) {
	if e := crack.CheckLaw([]crack.Step{}); e != api.ErrArg {
		t.Errorf("CheckLaw: error %d", e)
	}
	if a, e := crack.Reconcile(span("1..2"), []exact.Span{}); e != api.OK || agreementText(a) != "1..2 by " {
		t.Errorf("Reconcile: %s, error %d", agreementText(a), e)
	}
	for _, crew := range [][]api.Team{nil, {}, {{}}, {{Slots: []int{}}, {}}} {
		checkPlan(t, []api.Job{}, crew, "")
		noPlan(t, jobs("0<0"), crew, "0")
		proves(t, jobs("0<0"), crew, []int{}, false)
		if n, e := crack.CheckPlan([]api.Job{}, crew, []api.Visit{}); e != api.OK || n != -1 {
			t.Errorf("CheckPlan: %d, error %d", n, e)
		}
	}
	for _, laws := range [][][]crack.Step{nil, {}} {
		if w, e := crack.NewWatch(laws, exact.Q{}); e != api.OK || w == nil {
			t.Errorf("NewWatch: error %d", e)
		}
	}
}

// TestR4ArgumentsStay checks that no function changes its arguments, and R10:
// that the same is told again.
func TestR4ArgumentsStay(t *testing.T) {
	l, findings := law(steep), spans("10..12 8..10 13..14")
	fine, blocked, crew := jobs("0<1 1<0 2<5 1<1"), jobs("0<0 1<0 2<0 3<9 0<0"), teams("01: 1 1 0", "12: 1 0 1", "3: 1 1 1")
	plan, block := visits("0/0 0/1 2/1 1/0"), ints("2 1 0")
	all := func() string {
		return lawText(l) + spanTexts(findings) + taskText(fine, crew) + taskText(blocked, crew) + visitTexts(plan) + intTexts(block)
	}
	told := func() string {
		size, _ := crack.Grow(l, span("8..9"), 2, num("1/3"))
		last, _ := crack.Deadline(l, span("8..9"), num("16"), num("1/3"))
		a, _ := crack.Reconcile(span("9..11"), findings)
		visits, e1 := crack.Plan(fine, crew)
		n, e2 := crack.CheckPlan(fine, crew, plan)
		numbers, e3 := crack.Block(blocked, crew)
		proves, e4 := crack.Proves(blocked, crew, block)
		w, e5 := crack.NewWatch([][]crack.Step{l}, exact.Q{})
		e6 := w.Add("a", 0, span("9..11"), num("16"))
		b, e7 := w.Inspect("a", findings)
		w.Tick()
		codes := joined([]api.Errno{e1, e2, e3, e4, e5, e6, e7}, func(e api.Errno) string { return strconv.Itoa(int(e)) })
		return strings.Join([]string{spanText(size), intTexts([]int{last, n}), agreementText(a), visitTexts(visits), intTexts(numbers), strconv.FormatBool(proves), agreementText(b), lists(w), codes}, "; ")
	}
	before, first := all(), told()
	if want := "10..16; 2 -1; 10..10 by 0 1, doubt; 0/0 0/1 2/1 1/0; 0 1 2; true; 10..10 by 0 1, doubt; a 0; ; 0 0 0 0 0 0 0"; first != want {
		t.Errorf("%s\nnot\n%s", first, want)
	}
	for range 5 {
		if again := told(); again != first {
			t.Errorf("%s\nthen\n%s", first, again)
		}
	}
	if after := all(); after != before {
		t.Errorf("%s\nbecame\n%s", before, after)
	}
}

// TestR4LawsAreCopied overwrites the laws that a watch was given.
func TestR4LawsAreCopied(t *testing.T) {
	laws := [][]crack.Step{law(steep), law("0:0..1")}
	w, _ := crack.NewWatch(laws, exact.Q{})
	add(t, w, "a 0 8..9 16", "b 1 8..9 16")
	for i := range laws {
		for k := range laws[i] {
			laws[i][k] = crack.Step{From: num("-5"), Grow: span("7..6")}
		}
		laws[i] = nil
	}
	add(t, w, "c 0 8..9 16")
	w.Tick()
	checkSize(t, w, "a", "9..11")
	checkSize(t, w, "b", "8..10")
	checkSize(t, w, "c", "9..11")
	checkLists(t, w, "a 1 c 1 b 6; ")
}

// TestR4ResultsAreNew overwrites results: nothing else changes with them.
func TestR4ResultsAreNew(t *testing.T) {
	w := newWatch(t, "0", steep)
	add(t, w, "a 0 8..9 16", "b 0 8..9 16", "c 0 8..9 1")
	a, _ := w.Inspect("a", spans("8..9 8..9"))
	a.Size = span("0..1")
	a.Used[0], a.Used[1] = 77, 77
	due, alarms := w.Due(), w.Alarms()
	for i := range due[:cap(due)] {
		due[:cap(due)][i] = api.Due{Name: "x", Deadline: 77}
	}
	alarms[0] = "x"
	checkLists(t, w, "a 2 b 2; c")
	b, _ := w.Inspect("a", spans("8..9 8..9"))
	if agreementText(b) != "8..9 by 0 1" {
		t.Error(agreementText(b))
	}
	j, crew := jobs("0<0 0<0 0<5"), teams("0: 1 1")
	block, _ := crack.Block(j, crew)
	block[0], block[1] = 77, 77
	noPlan(t, j, crew, "0 1")
	plan, _ := crack.Plan(j[1:], crew)
	plan[0] = api.Visit{Period: 7, Team: 7}
	checkPlan(t, j[1:], crew, "0/0 1/0")
}

// TestR2NothingChanges calls a watch with all that is wrong: it stays as it is.
func TestR2NothingChanges(t *testing.T) {
	w := newWatch(t, "1/2", steep)
	add(t, w, "a 0 8..9 16", "b 0 8..9 8")
	before := lists(w)
	for _, wrong := range wrongSizes() {
		w.Add("new", 0, wrong, num("9"))
		w.Repair("a", wrong)
		w.Inspect("a", []exact.Span{span("8..8"), wrong})
		w.Repair("new", wrong)
	}
	w.Add("a", 0, span("1..2"), num("9"))
	w.Add("new", 1, span("1..2"), num("9"))
	w.Inspect("a", slices.Repeat(spans("8..8"), api.MaxFindings+1))
	w.Inspect("new", spans("8..8"))
	w.Repair("new", span("8..8"))
	checkLists(t, w, before)
	checkSize(t, w, "a", "8..9")
	checkSize(t, w, "b", "8..9")
	if s, e := w.Size("new"); e != api.ErrNone {
		t.Errorf("%s, error %d", spanText(s), e)
	}
}
