package repair_test

import (
	"math/rand"
	"slices"
	"testing"

	"voussoir/api"
	"voussoir/repair"
)

// orderCase is a job, with the smallest order and the sets that can be reached.
type orderCase struct {
	job   repair.Job
	order string // "none" if there is none
	reach string
}

// late returns the job of the document's second example.
func late() repair.Job {
	j := example("1")
	j.Steps[1].After = []int{0}
	return j
}

// spare returns the job of the document's first example, in which the bar 2 is
// there too, with other steps.
func spare(texts ...string) repair.Job {
	j := hanging(texts...)
	j.Absent[2] = false
	return j
}

// orderCases returns some jobs.
func orderCases() []orderCase {
	idle := example("2")
	idle.Steps = nil
	return []orderCase{
		{example("1"), "1 0", "{} {1} {0 1}"},
		{late(), "none", "{}"},
		{example("2"), "none", ""},
		{idle, "none", ""},
		{hanging(), "", "{}"},
		{repair.Job{}, "", "{}"},
		{repair.Job{Steps: steps("act", "act")}, "0 1", "{} {0} {0 1}"},
		{hanging("hold 4", "hold 5"), "0 1", "{} {0} {1} {0 1}"},
		{hanging("hold 4 after 1", "hold 5"), "1 0", "{} {1} {0 1}"},
		{hanging("hold 4 after 1", "hold 5 after 0"), "none", "{}"},
		{hanging("hold 4", "hold 5 after 2", "hold 0 after 1"), "none", "{} {0}"},
		{hanging("take 1", "hold 5", "hold 4"), "1 2 0", "{} {1} {2} {0 2} {1 2} {0 1 2}"},
		{hanging("take 1", "put 1", "put 2"), "2 0 1", "{} {2} {0 2} {0 1 2}"},
		{hanging("take 1", "put 2", "put 1", "take 2"), "1 0 2 3", "{} {1} {0 1} {1 3} {0 1 2} {0 1 2 3}"},
		{hanging("act 0 0 0 0 24 0", "act 0 0 0 0 0 0", "hold 4"), "2 0 1", "{} {2} {0 2} {0 1 2}"},
		{hanging("put 2", "put 2", "put 2"), "0 1 2", "{} {0} {0 1} {0 1 2}"},
		{hanging("act 0 0 0 0 24 0"), "none", "{}"},
		{hanging("hold 5", "hold 4", "hold 0", "put 2"), "0 1 2 3",
			"{} {0} {1} {2} {3} {0 1} {0 2} {0 3} {1 2} {1 3} {2 3} {0 1 2} {0 1 3} {0 2 3} {1 2 3} {0 1 2 3}"},
		{hanging("let 5 after 1", "hold 4", "hold 5", "let 4 after 2"), "1 0 2 3", "{} {1} {0 1} {0 1 2} {0 1 2 3}"},
		{spare("take 2", "take 1", "put 1"), "1 2 0", "{} {0} {1} {1 2} {0 1 2}"},
		{spare("hold 5", "take 2", "take 1", "put 1", "let 5"), "0 2 3 1 4", "{} {0} {1} {2} {0 1} {0 2} {0 4} {2 3} {0 1 4} {0 2 3} {0 2 4} {1 2 3} {0 1 2 3} {0 2 3 4} {0 1 2 3 4}"},
	}
}

func TestP9_4Order(t *testing.T) {
	for _, c := range orderCases() {
		if c.order == "none" {
			checkOrder(t, c.job, "", api.ErrNone)
		} else {
			checkOrder(t, c.job, c.order, api.OK)
		}
	}
}

func TestP9_5Reach(t *testing.T) {
	for _, c := range orderCases() {
		checkReach(t, c.job, c.reach)
	}
}

// hasty returns the order of the steps that are always the first ones that can be
// done: it may end where no step can be done.
func hasty(w world) []int {
	var order []int
	for range w.Steps {
		for step := range w.Steps {
			if done, _ := w.walk(append(slices.Clone(order), step)); done > len(order) {
				order = append(order, step)
				break
			}
		}
	}
	return order
}

func TestP9_4Many(t *testing.T) {
	r := rand.New(rand.NewSource(94))
	count := map[string]int{}
	for range 500 {
		w := worldOf(someJob(r, 6))
		order, ok := w.best(w.orders())
		switch {
		case !ok:
			count["none"]++
			checkOrder(t, w.Job, "", api.ErrNone)
			continue
		case slices.Equal(order, hasty(w)):
			count["at once"]++
		default:
			count["by a detour"]++
		}
		checkOrder(t, w.Job, intText(order), api.OK)
	}
	if count["none"] < 100 || count["at once"] < 100 || count["by a detour"] < 10 {
		t.Error("too few of a kind", count)
	}
}

func TestP9_5Many(t *testing.T) {
	r := rand.New(rand.NewSource(95))
	count := map[int]int{}
	for range 500 {
		w := worldOf(someJob(r, 6))
		reach := w.reach(w.orders())
		count[min(len(reach), 10)]++
		checkReach(t, w.Job, setText(reach))
	}
	if count[0] < 20 || count[1] < 20 || count[10] < 100 {
		t.Error("too few of a kind", count)
	}
}
