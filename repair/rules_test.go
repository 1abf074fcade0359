package repair_test

import (
	"math/rand"
	"slices"
	"strconv"
	"strings"
	"testing"

	"voussoir/api"
	"voussoir/repair"
)

// told returns all that is told of a job and lists, as one text.
func told(j repair.Job, list []int, proof [][]int) string {
	g, e1 := repair.Look(j, list)
	done, e2 := repair.Walk(j, list)
	order, e3 := repair.Order(j)
	reach, e4 := repair.Reach(j)
	ok, e5 := repair.Proves(j, proof)
	numbers := []int{done}
	for _, e := range []api.Errno{repair.Check(j), e1, e2, e3, e4, e5} {
		numbers = append(numbers, int(e))
	}
	return strings.Join([]string{stageText(g), intText(order), setText(reach), strconv.FormatBool(ok), intText(numbers)}, "; ")
}

// TestP1Great asks all of a job of the greatest size, of which each set can be
// reached.
func TestP1Great(t *testing.T) {
	j := greatest()
	for bits := 0; bits < 1<<api.MaxSteps; bits += 73 {
		checkLook(t, j, intText(subset(bits)), stageText(stageOf(j, subset(bits))))
	}
	checkOrder(t, j, "0 1 2 3 4 5 6 7 8 9", api.OK)
	checkWalk(t, j, ints("9 8 7 6 5 4 3 2 1 0"), 10, api.OK)
	reach, e := repair.Reach(j)
	if e != api.OK || len(reach) != 1<<api.MaxSteps {
		t.Fatalf("%d sets, error %d", len(reach), e)
	}
	isAfter := func(a, b []int) bool { return len(a) > len(b) || len(a) == len(b) && slices.Compare(a, b) > 0 }
	for i := 1; i < len(reach); i++ {
		if !isAfter(reach[i], reach[i-1]) {
			t.Errorf("%v stands before %v", reach[i-1], reach[i])
		}
	}
	checkProves(t, j, reach, false)
	checkProves(t, j, reach[:len(reach)-1], false)
	j.Truss.Bars[0].Tension, j.Truss.Bars[0].Squash = 0, 0
	checkLook(t, j, "", stageText(stageOf(j, nil)))
	checkReach(t, j, "")
	checkOrder(t, j, "", api.ErrNone)
	checkProves(t, j, nil, true)
}

// TestR4ArgumentsStay checks that no function changes its arguments, and R10:
// that the same is told again.
func TestR4ArgumentsStay(t *testing.T) {
	r := rand.New(rand.NewSource(4))
	first := hanging("put 2", "act 1 2 3 4 5 0 after 0", "take 1 after 1 0", "hold 4", "let 4")
	want := "111, 111110, 1 2 3 4 5 0, over -1; 0 1 2 3 4; {} {0} {3} {0 1} {0 3} {3 4} {0 1 2} {0 1 3} {0 3 4} {0 1 2 3} {0 1 3 4} {0 1 2 3 4}; false; 3 0 0 9 0 0 0"
	if text := told(first, ints("3 0 1"), sets("{} {0}")); text != want {
		t.Errorf("%s\nnot\n%s", text, want)
	}
	list := []repair.Job{first, example("1"), late(), example("2")}
	for range 30 {
		list = append(list, someJob(r, 6))
	}
	for _, j := range list {
		before := jobText(j)
		done, proof := shuffled(r, subset(r.Intn(1<<len(j.Steps)))), someSets(r, worldOf(j))
		lists := intText(done) + setText(proof)
		text := told(j, done, proof)
		for range 3 {
			if again := told(j, done, proof); again != text {
				t.Errorf("%s\nthen\n%s", text, again)
			}
		}
		if after := jobText(j); after != before || intText(done)+setText(proof) != lists {
			t.Errorf("%s\nbecame\n%s", before, after)
		}
	}
}

// spoil overwrites a list, also where there is room behind it.
func spoil[T any](list []T, x T) {
	list = list[:cap(list)]
	for i := range list {
		list[i] = x
	}
}

// TestR4ResultsAreNew overwrites results: nothing else changes with them.
func TestR4ResultsAreNew(t *testing.T) {
	j := hanging("put 2", "act 1 2 3 4 5 0", "hold 4")
	before := jobText(j)
	for range 2 {
		for done, want := range map[string]string{"0": "111, 111100, 0 0 0 0 12 0, over -1", "0 1 2": "111, 111110, 1 2 3 4 5 0, over -1"} {
			checkLook(t, j, done, want)
			g, _ := repair.Look(j, ints(done))
			held := boolText(g.Held)
			spoil(g.Pushes, api.Push{X: 77, Y: 77})
			spoil(g.There, false)
			if boolText(g.Held) != held {
				t.Errorf("%s, not %s", boolText(g.Held), held)
			}
			spoil(g.Held, false)
		}
		order, _ := repair.Order(j)
		spoil(order, 77)
		checkOrder(t, j, "0 1 2", api.OK)
		want := sets("{} {0} {1} {2} {0 1} {0 2} {1 2} {0 1 2}")
		reach, _ := repair.Reach(j)
		for i := range reach {
			if !slices.Equal(reach[i], want[i]) {
				t.Errorf("%s, not %s", setText(reach), setText(want))
			}
			spoil(reach[i], 77)
		}
		if jobText(j) != before {
			t.Errorf("%s\nbecame\n%s", before, jobText(j))
		}
	}
}

// TestR3Empty checks that lists that are empty mean the same as none.
func TestR3Empty(t *testing.T) {
	j := hanging("hold 4", "act 0 0 0 0 0 0")
	j.Steps[0].Pushes, j.Steps[0].After, j.Steps[1].After = nil, nil, nil
	empty := cloned(j)
	empty.Steps[0].Pushes, empty.Steps[0].After, empty.Steps[1].After = []api.Push{}, []int{}, []int{}
	if a, b := told(j, nil, nil), told(empty, []int{}, [][]int{}); a != b {
		t.Errorf("%s\nand\n%s", a, b)
	}
	checkProves(t, late(), [][]int{nil}, true)
	checkProves(t, late(), [][]int{{}}, true)
	nothing := repair.Job{
		Truss: api.Truss{Joints: []api.Joint{}, Bars: []api.Bar{}}, Absent: []bool{}, Pushes: []api.Push{},
		Steps: []repair.Step{{Kind: api.Act, Pushes: []api.Push{}, After: []int{}}},
	}
	if a, b := told(nothing, []int{0}, [][]int{{}}), told(repair.Job{Steps: steps("act")}, []int{0}, [][]int{nil}); a != b {
		t.Errorf("%s\nand\n%s", a, b)
	}
}
