package repair_test

import (
	"math/rand"
	"slices"
	"testing"

	"voussoir/api"
	"voussoir/exact"
	"voussoir/repair"
)

// TestP9_7Stages looks at each beginning of orders that are found.
func TestP9_7Stages(t *testing.T) {
	r := rand.New(rand.NewSource(97))
	found := 0
	for range 300 {
		j := someJob(r, 8)
		order, e := repair.Order(j)
		if e != api.OK {
			continue
		}
		found++
		checkWalk(t, j, order, len(order), api.OK)
		for n := range len(order) + 1 {
			g, e := repair.Look(j, order[:n])
			if e != api.OK || g.Moves || g.Over != -1 {
				t.Errorf("%s\n%v: error %d, %s", jobText(j), order[:n], e, stageText(g))
			}
			if n < len(order) {
				checkWalk(t, j, order[:n], n, api.ErrState)
			}
		}
	}
	if found < 100 {
		t.Error("too few orders", found)
	}
}

// TestP9_8NoOrder compares orders with proofs that there are none.
func TestP9_8NoOrder(t *testing.T) {
	r := rand.New(rand.NewSource(98))
	count := map[string]int{}
	for range 400 {
		w := worldOf(someJob(r, 7))
		order, e := repair.Order(w.Job)
		reach, e2 := repair.Reach(w.Job)
		if e2 != api.OK {
			t.Fatalf("%s\nerror %d", jobText(w.Job), e2)
		}
		if e != api.OK {
			count["none"]++
			checkProves(t, w.Job, reach, true)
		} else {
			checkProves(t, w.Job, reach, false)
			isFull := func(set []int) bool { return len(set) == len(w.Steps) }
			checkProves(t, w.Job, slices.DeleteFunc(slices.Clone(reach), isFull), false)
		}
		for range 3 {
			told := someSets(r, w)
			ok, _ := repair.Proves(w.Job, told)
			if ok && e != api.ErrNone {
				t.Errorf("%s\n%s proves that there is no order, and %v is one", jobText(w.Job), setText(told), order)
			}
			if ok {
				count["proved"]++
			}
		}
	}
	if count["none"] < 100 || count["proved"] < 100 {
		t.Error("too few of a kind", count)
	}
}

// isAmong reports whether a set is one of some sets.
func isAmong(list [][]int, set []int) bool {
	return slices.ContainsFunc(list, func(other []int) bool { return slices.Equal(set, other) })
}

// TestP9_9Margins checks that no set is lost with a smaller margin.
func TestP9_9Margins(t *testing.T) {
	r := rand.New(rand.NewSource(99))
	grown := 0
	for range 200 {
		j := someJob(r, 7)
		j.Margin = part(1+r.Intn(9), 1+r.Intn(4))
		was, e := repair.Reach(j)
		for _, factor := range []exact.Q{part(99, 100), part(1, 2), part(1, 9), {}} {
			less := j
			less.Margin = j.Margin.Times(factor)
			is, e2 := repair.Reach(less)
			if e != api.OK || e2 != api.OK {
				t.Fatalf("%s\nerrors %d, %d", jobText(j), e, e2)
			}
			for _, set := range was {
				if !isAmong(is, set) {
					t.Errorf("%s\nwith the margin %s %v is not reached", jobText(j), less.Margin.Text(), set)
				}
			}
			grown += min(1, len(is)-len(was))
			j, was = less, is
		}
	}
	if grown < 50 {
		t.Error("too few have more sets", grown)
	}
}
