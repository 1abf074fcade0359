package repair_test

import (
	"math/rand"
	"slices"
	"testing"

	"voussoir/api"
	"voussoir/repair"
)

func TestP9_6Example(t *testing.T) {
	for told, want := range map[string]bool{
		"{}": true, "": false, "{} {}": true, "{0}": false, "{1}": false,
		"{} {1}": false,                  // after the step 1 the step 0 is ready, and safe
		"{} {0}": false, "{0} {}": false, // so is the step 1 after the step 0
		"{} {0 1}": false, "{0 1}": false, "{} {2}": false, "{} {-1}": false, "{} {1 0}": false, "{} {0 0}": false,
	} {
		checkProves(t, late(), sets(told), want)
	}
	for _, told := range []string{"{}", "", "{} {1}", "{} {0} {1}", "{} {1} {0 1}"} {
		checkProves(t, example("1"), sets(told), false)
	}
}

// TestP9_6Unsafe proves that there is no order where not even the empty set is
// safe: it may be told, and then it asks for what follows.
func TestP9_6Unsafe(t *testing.T) {
	j := example("2") // with the step 1 it is safe, with both it is not
	for told, want := range map[string]bool{
		"": true, "{0}": true, "{1}": true, "{} {1}": true, "{} {0} {1}": true, "{} {1} {}": true,
		"{}": false, "{} {0}": false, "{0 1}": false, "{} {0 1}": false, "{2}": false, "{1} {-1}": false, "{1 0}": false,
	} {
		checkProves(t, j, sets(told), want)
	}
	heavy := hanging("hold 4", "hold 5", "act 0 0 0 0 1 0")
	heavy.Margin = num("2") // with the step 0 or the step 2 it is safe
	for told, want := range map[string]bool{
		"": true, "{} {0} {2} {0 1} {0 2} {1 2}": false, // for the set of all is safe
		"{}": false, "{0}": false, "{1}": false, "{} {0}": false, "{} {2}": false, "{} {0} {2}": false,
	} {
		checkProves(t, heavy, sets(told), want)
	}
}

func TestP9_6Nothing(t *testing.T) {
	idle := example("2")
	idle.Steps = nil
	for told, want := range map[string]bool{"": true, "{}": false, "{0}": false, "{} {}": false} {
		checkProves(t, idle, sets(told), want)
		checkProves(t, hanging(), sets(told), false)
		checkProves(t, repair.Job{}, sets(told), false)
	}
}

// TestP9_6Lists checks that each set must be a list of steps in strictly
// ascending order, also if the others alone would prove what they should.
func TestP9_6Lists(t *testing.T) {
	j := hanging("hold 4", "hold 5", "take 0 after 3", "act 0 0 0 0 1 0 after 2")
	good := "{} {0} {1} {0 1}"
	checkProves(t, j, sets(good), true)
	for told, want := range map[string]bool{
		"{0 1} {1} {} {0}": true, "{0 1} {0 1} {1} {} {0} {1}": true,
		"{} {0} {1} {1 0}": false, "{0} {1} {0 1}": false, "{} {1} {0 1}": false, "{} {0} {0 1}": false, "{} {0} {1}": false,
		good + " {1 0}": false, good + " {0 0}": false, good + " {0 1 1}": false, good + " {4}": false, good + " {-1}": false, good + " {0 4}": false,
		good + " {0 1 64}": false, good + " {9223372036854775807}": false, good + " {-9223372036854775808 0}": false, good + " {4294967296}": false,
		good + " {0 1 2 3}": false, good + " {0 1 2 3 4}": false, good + " {0 1 0}": false, "{7} " + good: false,
		good + " {2} {0 2} {1 2} {0 1 2}": false, // after {0 1 2} the step 3 is ready, and safe
		good + " {3}":                     false, // it is not allowed, but asks for {0 3}
	} {
		checkProves(t, j, sets(told), want)
	}
	checkProves(t, j, [][]int{nil, {0}, slices.Repeat([]int{1}, 1<<20)}, false)
	checkProves(t, j, slices.Repeat(sets(good), 1000), true)
}

// TestP9_6NotAllowed tells sets that are not allowed: the same is asked for them.
func TestP9_6NotAllowed(t *testing.T) {
	j := hanging("hold 4", "hold 5 after 2", "act 0 0 0 0 1 0 after 1", "act 0 0 0 0 24 0")
	for told, want := range map[string]bool{
		"{} {0}": true, "{}": false,
		"{} {0} {1}":                         false, // asks for {0 1} and {1 2}
		"{} {0} {0 1} {0 1 2} {0 1 2 3}":     false,
		"{} {0} {3} {0 3}":                   true, // the steps 1 and 2 wait for each other
		"{} {0} {3}":                         false,
		"{} {0} {0 3}":                       true,
		"{} {0} {1 3}":                       false,
		"{} {0} {0 2} {0 1 2}":               false,
		"{} {0} {2 3} {1 2 3} {0 2 3}":       false,
		"{} {0} {1 2} {0 1 2}":               false,
		"{} {0} {1} {0 1} {1 2} {0 1 2}":     false,
		"{} {0} {1 3} {0 1 3} {1 2 3} {0 3}": false,
	} {
		checkProves(t, j, sets(told), want)
	}
}

// someClosed returns the sets that some sets ask for, and those themselves.
func someClosed(w world, list [][]int) [][]int {
	for i := 0; i < len(list); i++ {
		for _, more := range w.needed(list[i]) {
			if !slices.ContainsFunc(list, func(set []int) bool { return slices.Equal(set, more) }) {
				list = append(list, more)
			}
		}
	}
	return list
}

// someSets returns sets at random, of which many are closed or nearly so.
func someSets(r *rand.Rand, w world) [][]int {
	var list [][]int
	if r.Intn(6) > 0 {
		list = append(list, nil)
	}
	for range r.Intn(3) {
		if set := subset(r.Intn(1 << len(w.Steps))); len(set) < len(w.Steps) {
			list = append(list, set)
		}
	}
	if r.Intn(5) > 0 {
		list = someClosed(w, list)
	}
	if len(list) > 0 && r.Intn(4) == 0 {
		i := r.Intn(len(list))
		list = slices.Delete(list, i, i+1)
	}
	if len(list) > 0 && r.Intn(6) == 0 {
		i := r.Intn(len(list))
		list[i] = append(shuffled(r, list[i]), subset(r.Intn(2)<<r.Intn(8))...)
	}
	return list
}

func TestP9_6Many(t *testing.T) {
	r := rand.New(rand.NewSource(96))
	count := map[bool]int{}
	for range 500 {
		w := worldOf(someJob(r, 6))
		for range 6 {
			list := someSets(r, w)
			want := w.proves(list)
			count[want]++
			checkProves(t, w.Job, list, want)
		}
	}
	if count[true] < 300 || count[false] < 300 {
		t.Error("too few of a kind", count)
	}
}

// TestP9_6Great proves something of as many steps as there may be: only the set
// of all of them is not safe.
func TestP9_6Great(t *testing.T) {
	j := spread(api.MaxSteps)
	var list [][]int
	for bits := range 1<<api.MaxSteps - 1 {
		list = append(list, subset(bits))
	}
	checkProves(t, j, list, true)
	for _, i := range []int{0, 1, 77, 512, len(list) - 1} {
		checkProves(t, j, slices.Delete(slices.Clone(list), i, i+1), false)
	}
	checkProves(t, j, append(list, subset(1<<api.MaxSteps-1)), false)
	checkOrder(t, j, "", api.ErrNone)
	reach, e := repair.Reach(j)
	if e != api.OK || len(reach) != len(list) {
		t.Errorf("%d sets, error %d", len(reach), e)
	}
}
