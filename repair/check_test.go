package repair_test

import (
	"testing"

	"voussoir/api"
	"voussoir/repair"
)

func TestP9_1Valid(t *testing.T) {
	for _, j := range validJobs() {
		if e := repair.Check(j); e != api.OK {
			t.Errorf("%s\nerror %d", jobText(j), e)
		}
	}
	if j := greatest(); len(j.Steps) != api.MaxSteps || len(j.Truss.Bars) != api.MaxBars || len(j.Truss.Joints) != api.MaxJoints {
		t.Error("not the greatest job")
	}
}

func TestP9_1Wrong(t *testing.T) {
	for _, j := range wrongJobs() {
		if e := repair.Check(j); e != api.ErrArg {
			t.Errorf("%s\nerror %d", jobText(j), e)
		}
	}
}

// TestP9_1Everywhere checks that each function refuses jobs that are not valid,
// before it looks at its other argument.
func TestP9_1Everywhere(t *testing.T) {
	for _, j := range wrongJobs() {
		for _, list := range [][]int{nil, {0}, {0, 1}, {0, 0}, {-1}, {1 << 62}} {
			noLook(t, j, list, api.ErrArg)
			checkWalk(t, j, list, 0, api.ErrArg)
			for _, told := range [][][]int{nil, {list}} {
				if ok, e := repair.Proves(j, told); ok || e != api.ErrArg {
					t.Errorf("%s\nProves of %v: %v, error %d", jobText(j), told, ok, e)
				}
			}
		}
		checkOrder(t, j, "", api.ErrArg)
		if list, e := repair.Reach(j); len(list) != 0 || e != api.ErrArg {
			t.Errorf("%s\nReach: %v, error %d", jobText(j), list, e)
		}
	}
}
