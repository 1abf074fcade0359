package repair_test

import (
	"math/rand"
	"slices"
	"testing"

	"voussoir/api"
	"voussoir/repair"
)

func TestP9_3Example(t *testing.T) {
	j := example("1")
	for _, c := range []struct {
		order string
		done  int
		e     api.Errno
	}{
		{"1 0", 2, api.OK}, {"0 1", 0, api.ErrUnsafe}, {"1", 1, api.ErrState}, {"", 0, api.ErrState}, {"0", 0, api.ErrUnsafe},
		{"2", 0, api.ErrOrder}, {"-1", 0, api.ErrOrder}, {"1 1", 1, api.ErrOrder}, {"1 2", 1, api.ErrOrder}, {"1 -1", 1, api.ErrOrder},
		{"1 0 0", 2, api.ErrOrder}, {"1 0 1", 2, api.ErrOrder}, {"1 0 2", 2, api.ErrOrder}, {"1 9223372036854775807", 1, api.ErrOrder},
		{"-9223372036854775808", 0, api.ErrOrder}, {"1 64", 1, api.ErrOrder}, {"4294967296", 0, api.ErrOrder},
		{"0 0", 0, api.ErrUnsafe}, {"0 9", 0, api.ErrUnsafe}, {"9 0", 0, api.ErrOrder},
	} {
		checkWalk(t, j, ints(c.order), c.done, c.e)
	}
	for _, order := range []string{"1 0", "", "0", "7", "-1", "1 1"} {
		checkWalk(t, example("2"), ints(order), 0, api.ErrUnsafe)
	}
}

// TestP9_3Precedes checks which steps must be done before which.
func TestP9_3Precedes(t *testing.T) {
	j := hanging("put 2", "hold 4", "take 2", "let 4", "act 0 0 0 0 1 0", "act 0 0 0 0 2 0 after 2", "put 1 after 5 0 5", "hold 5")
	for _, c := range []struct {
		order string
		done  int
		e     api.Errno
	}{
		{"0 1 2 3 4 5 6 7", 8, api.OK}, {"7 4 1 3 0 2 5 6", 8, api.OK}, {"4 7 0 2 5 6 1 3", 8, api.OK},
		{"2", 0, api.ErrOrder}, {"1 2", 1, api.ErrOrder}, {"0 3", 1, api.ErrOrder}, {"1 7 5", 2, api.ErrOrder}, {"0 4 5", 2, api.ErrOrder},
		{"0 2 5", 2, api.ErrOrder}, {"0 4 2 6", 3, api.ErrOrder}, {"0 4 2 5 6", 5, api.ErrState}, {"6", 0, api.ErrOrder}, {"7 1 3 1", 3, api.ErrOrder},
	} {
		checkWalk(t, j, ints(c.order), c.done, c.e)
	}
	circle := hanging("hold 4 after 1", "hold 5 after 0")
	for _, order := range []string{"0 1", "1 0", "0", "1"} {
		checkWalk(t, circle, ints(order), 0, api.ErrOrder)
	}
	checkWalk(t, circle, nil, 0, api.ErrState)
}

// TestP9_3Way checks that each set on the way must be safe, not only the last.
func TestP9_3Way(t *testing.T) {
	j := hanging("hold 4", "hold 5", "take 0", "act 0 0 0 0 24 0", "take 1", "put 0", "put 1", "let 4", "let 5", "act 0 0 0 0 20 0")
	for _, c := range []struct {
		order string
		done  int
		e     api.Errno
	}{
		{"0 1 2 3 4 5 6 9 7 8", 10, api.OK}, {"0 1 2 3 4 5 6 9 8 7", 10, api.OK}, {"1 0 2 4 5 6 7 8", 8, api.ErrState},
		{"3", 0, api.ErrUnsafe}, {"0 1 3 7", 3, api.ErrUnsafe}, {"0 3 1 2 4 5 6 8 7", 8, api.ErrUnsafe}, {"0 1 2 4 5 7", 5, api.ErrUnsafe},
		{"0 2", 2, api.ErrState}, {"2 0", 0, api.ErrUnsafe}, {"1 2", 2, api.ErrState}, {"1 4", 1, api.ErrUnsafe}, {"1 4 0", 1, api.ErrUnsafe},
		{"0 1 2 4 8", 4, api.ErrUnsafe},
	} {
		checkWalk(t, j, ints(c.order), c.done, c.e)
	}
}

func TestP9_3Nothing(t *testing.T) {
	checkWalk(t, repair.Job{}, nil, 0, api.OK)
	checkWalk(t, repair.Job{}, []int{0}, 0, api.ErrOrder)
	checkWalk(t, hanging(), nil, 0, api.OK)
	idle := example("2")
	idle.Steps = nil
	checkWalk(t, idle, nil, 0, api.ErrUnsafe)
	checkWalk(t, idle, []int{0}, 0, api.ErrUnsafe)
	long := slices.Repeat([]int{0}, 1<<20)
	checkWalk(t, hanging("hold 4"), long, 1, api.ErrOrder)
}

// someOrder returns numbers at random, often steps that can be done one after
// another.
func someOrder(r *rand.Rand, w world) []int {
	var order []int
	for range len(w.Steps) {
		next := slices.DeleteFunc(r.Perm(len(w.Steps)), func(step int) bool {
			return slices.Contains(order, step) || !areDone(w.Job, order, step) || r.Intn(4) > 0 && !w.isSafe(append(slices.Clone(order), step))
		})
		if len(next) > 0 && r.Intn(15) > 0 {
			order = append(order, next[0])
		} else {
			order = append(order, r.Intn(len(w.Steps)+1))
		}
	}
	return order
}

func TestP9_3Many(t *testing.T) {
	r := rand.New(rand.NewSource(93))
	count := map[api.Errno]int{}
	for range 400 {
		w := worldOf(someJob(r, 6))
		for range 5 {
			order := someOrder(r, w)
			if r.Intn(6) == 0 {
				order = order[:len(order)/2]
			}
			done, e := w.walk(order)
			count[e]++
			checkWalk(t, w.Job, order, done, e)
		}
	}
	for _, e := range []api.Errno{api.OK, api.ErrOrder, api.ErrUnsafe, api.ErrState} {
		if count[e] < 100 {
			t.Error("too few of a kind", count)
		}
	}
}
