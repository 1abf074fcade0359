package crack_test

import (
	"math/rand"
	"slices"
	"strconv"
	"testing"

	"voussoir/api"
	"voussoir/crack"
	"voussoir/exact"
)

// TestP7_11 lets cracks grow by their law: their sizes stay in the bounds, and
// below the critical size until the deadline.
func TestP7_11(t *testing.T) {
	r := rand.New(rand.NewSource(711))
	reached := 0
	for range 150 {
		l, size, grid := someLaw(r, 1+r.Intn(6)), someSize(r, 15), someGrid(r)
		critical := size.High.Plus(someQ(r, 0, 30))
		last, e := crack.Deadline(l, size, critical, grid)
		if e != api.OK {
			t.Fatal(e)
		}
		truth := between(r, size)
		for n := range 15 {
			bounds, e := crack.Grow(l, size, n, grid)
			if e != api.OK || !bounds.Has(truth) || n <= last && truth.Cmp(critical) > 0 {
				t.Fatalf("%s after %d periods of %s by %s, grid %s: %s, error %d; critical %s, deadline %d",
					truth.Text(), n, spanText(size), lawText(l), grid.Text(), spanText(bounds), e, critical.Text(), last)
			}
			truth = grownBy(r, l, truth)
		}
		if last < 15 {
			reached++
		}
	}
	if reached < 50 {
		t.Error("too few deadlines", reached)
	}
}

// TestP7_11Fast lets cracks grow as fast as they may: they pass the critical size
// directly behind the deadline, where there is no grid.
func TestP7_11Fast(t *testing.T) {
	r := rand.New(rand.NewSource(712))
	for range 60 {
		l, size := someLaw(r, 1+r.Intn(4)), someSize(r, 15)
		critical := size.High.Plus(someQ(r, 0, 30))
		last, e := crack.Deadline(l, size, critical, exact.Q{})
		if e != api.OK {
			t.Fatal(e)
		}
		if last == api.MaxAhead {
			continue
		}
		truth := grow(l, endsOf(exact.Between(size.High, size.High)), last, rat(exact.Q{})).high
		if truth.Cmp(rat(critical)) > 0 || truth.Add(truth, growthAt(l, truth).high).Cmp(rat(critical)) <= 0 {
			t.Fatalf("%s by %s to %s: %d", spanText(size), lawText(l), critical.Text(), last)
		}
	}
}

// TestP7_12 checks that there is either a plan or a block, and that a block
// proves the same of more jobs.
func TestP7_12(t *testing.T) {
	r := rand.New(rand.NewSource(713))
	count := map[bool]int{}
	for range 300 {
		j, crew := someTask(r, 1+r.Intn(12), 1+r.Intn(4), 1+r.Intn(6))
		plan, e1 := crack.Plan(j, crew)
		block, e2 := crack.Block(j, crew)
		count[e1 == api.OK]++
		if e1 == api.OK {
			if e2 != api.ErrPlan || firstWrong(j, crew, plan) != -1 {
				t.Fatalf("%s: %s, error %d of Block", taskText(j, crew), visitTexts(plan), e2)
			}
			proves(t, j, crew, shuffled(r, len(j))[r.Intn(len(j)+1):], false)
			continue
		}
		if e1 != api.ErrCrew || e2 != api.OK || !isBlock(j, crew, block) {
			t.Fatalf("%s: error %d, %v, error %d", taskText(j, crew), e1, block, e2)
		}
		more, _ := someTask(r, 1+r.Intn(10), 1, 9)
		j = append(j, more...)
		proves(t, j, crew, block, true)
		if _, e := crack.Plan(j, crew); e != api.ErrCrew {
			t.Fatalf("%s: error %d", taskText(j, crew), e)
		}
	}
	if count[true] < 80 || count[false] < 80 {
		t.Error("too few of a kind", count)
	}
}

// crackOf is an element of a watch and its true size.
type crackOf struct {
	name     string
	law      int
	critical exact.Q
	truth    exact.Q
}

// TestP7_13 watches cracks that grow by their laws, are inspected and repaired:
// their true sizes stay in their spans, and none of them passes its critical
// size without an alarm.
func TestP7_13(t *testing.T) {
	r := rand.New(rand.NewSource(714))
	passed := 0
	for range 25 {
		laws := [][]crack.Step{someLaw(r, 4), someLaw(r, 2), law("0:0..1/3 3:1/7..1")}
		w, _ := crack.NewWatch(laws, someGrid(r))
		var list []*crackOf
		for n := range 8 {
			x := &crackOf{"x" + strconv.Itoa(n), r.Intn(3), someQ(r, 5, 30), someQ(r, 0, 4)}
			list = append(list, x)
			if e := w.Add(x.name, x.law, around(r, x.truth, 2), x.critical); e != api.OK {
				t.Fatal(e)
			}
		}
		for range 25 {
			w.Tick()
			for _, x := range list {
				x.truth = grownBy(r, laws[x.law], x.truth)
				x.visit(t, r, w)
			}
			passed += checkTruth(t, w, list)
		}
	}
	if passed < 50 {
		t.Error("too few that passed their critical sizes", passed)
	}
}

// visit inspects or repairs a crack now and then.
func (x *crackOf) visit(t *testing.T, r *rand.Rand, w *crack.Watch) {
	t.Helper()
	switch r.Intn(8) {
	case 0:
		var findings []exact.Span
		for range r.Intn(4) {
			findings = append(findings, around(r, x.truth, 3))
		}
		if a, e := w.Inspect(x.name, findings); e != api.OK || a.Doubt {
			t.Fatalf("%s, findings %s: %s, error %d", x.truth.Text(), spanTexts(findings), agreementText(a), e)
		}
	case 1:
		if r.Intn(5) > 0 {
			return
		}
		x.truth = someQ(r, 0, 4)
		if e := w.Repair(x.name, around(r, x.truth, 2)); e != api.OK {
			t.Fatal(e)
		}
	}
}

// checkTruth checks that each true size is in its span, and that there is an
// alarm for each crack above its critical size. It returns how many there are.
func checkTruth(t *testing.T, w *crack.Watch, list []*crackOf) int {
	t.Helper()
	passed, alarms := 0, w.Alarms()
	for _, x := range list {
		size, e := w.Size(x.name)
		if e != api.OK || !size.Has(x.truth) {
			t.Fatalf("%s: %s is not in %s, error %d", x.name, x.truth.Text(), spanText(size), e)
		}
		if x.truth.Cmp(x.critical) <= 0 {
			continue
		}
		passed++
		if !slices.Contains(alarms, x.name) {
			t.Fatalf("%s: %s is above %s, alarms %v", x.name, x.truth.Text(), x.critical.Text(), alarms)
		}
	}
	if len(alarms)+len(w.Due()) != len(list) {
		t.Fatalf("%d elements, %s", len(list), lists(w))
	}
	return passed
}
