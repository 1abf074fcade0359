package repair_test

import (
	"math/rand"
	"testing"

	"voussoir/api"
	"voussoir/exact"
	"voussoir/repair"
)

func TestP9_2Example(t *testing.T) {
	j := example("1")
	checkLook(t, j, "", "110, 111100, 0 0 0 0 12 0, over -1")
	checkLook(t, j, "1", "111, 111100, 0 0 0 0 12 0, over -1")
	checkLook(t, j, "0", "100, 111100, 0 0 0 0 12 0, moves, over -1")
	checkLook(t, j, "0 1", "101, 111100, 0 0 0 0 12 0, over -1")
	checkLook(t, j, "1 0", "101, 111100, 0 0 0 0 12 0, over -1")
	checkLook(t, example("2"), "", "110, 111100, 0 0 0 0 12 0, over 1")
	checkLook(t, example("2"), "0 1", "101, 111100, 0 0 0 0 12 0, over 2")
}

func TestP9_2Bars(t *testing.T) {
	j := hanging("put 1", "take 1", "take 1", "put 2", "put 1", "take 2 after 0", "take 0")
	for done, want := range map[string]string{
		"":              "110, 111100, 0 0 0 0 12 0, over -1",
		"0":             "110, 111100, 0 0 0 0 12 0, over -1", // what is there can be put in
		"0 1":           "100, 111100, 0 0 0 0 12 0, moves, over -1",
		"0 1 2":         "100, 111100, 0 0 0 0 12 0, moves, over -1", // and what is not there taken away
		"2 3 0 1":       "101, 111100, 0 0 0 0 12 0, over -1",
		"4 3 2 1 0":     "111, 111100, 0 0 0 0 12 0, over -1",
		"0 3 5":         "110, 111100, 0 0 0 0 12 0, over -1",
		"5 3 0 6":       "010, 111100, 0 0 0 0 12 0, moves, over -1",
		"0 1 2 3 4 5 6": "010, 111100, 0 0 0 0 12 0, moves, over -1",
	} {
		checkLook(t, j, done, want)
	}
}

func TestP9_2Held(t *testing.T) {
	j := hanging("hold 4", "hold 5", "let 4", "let 5", "hold 4", "let 4", "let 0", "hold 0", "let 3")
	for done, want := range map[string]string{
		"0":         "110, 111110, 0 0 0 0 12 0, over -1",
		"1":         "110, 111101, 0 0 0 0 12 0, over -1",
		"0 1":       "110, 111111, 0 0 0 0 12 0, over -1",
		"0 1 2":     "110, 111101, 0 0 0 0 12 0, over -1",
		"0 2 1 3":   "110, 111100, 0 0 0 0 12 0, over -1",
		"0 2 4":     "110, 111110, 0 0 0 0 12 0, over -1",
		"0 2 4 5":   "110, 111100, 0 0 0 0 12 0, over -1",
		"6":         "110, 011100, 0 0 0 0 12 0, moves, over -1",
		"6 7":       "110, 111100, 0 0 0 0 12 0, over -1",
		"8":         "110, 111000, 0 0 0 0 12 0, moves, over -1",
		"8 0 1":     "110, 111011, 0 0 0 0 12 0, over -1",        // the bar holds its other end
		"6 0 1":     "110, 011111, 0 0 0 0 12 0, moves, over -1", // not across the bar
		"8 0 1 2":   "110, 111001, 0 0 0 0 12 0, moves, over -1",
		"8 0 1 2 3": "110, 111000, 0 0 0 0 12 0, moves, over -1",
	} {
		checkLook(t, j, done, want)
	}
	roller := hanging("let 0", "hold 1")
	roller.Truss.Joints[0] = joint(0, 0, "x")
	roller.Truss.Joints[1] = joint(4, 0, "y")
	checkLook(t, roller, "", "110, 100100, 0 0 0 0 12 0, moves, over -1")
	checkLook(t, roller, "1", "110, 110100, 0 0 0 0 12 0, moves, over -1")
	checkLook(t, roller, "0 1", "110, 010100, 0 0 0 0 12 0, moves, over -1")
}

func TestP9_2Pushes(t *testing.T) {
	j := hanging("act 1 2 3 4 -12 0", "act 0 0 0 0 -24 0", "act 0 0 0 0 0 0", "act 0 0 0 0 0 -21", "act 0 0 0 0 21 0")
	checkLook(t, j, "0", "110, 111100, 1 2 3 4 -12 0, over -1")
	checkLook(t, j, "1 0", "110, 111100, 0 0 0 0 -24 0, over 0")
	checkLook(t, j, "0 1 2", "110, 111100, 0 0 0 0 0 0, over -1")
	checkLook(t, j, "3 0 1 2", "110, 111100, 0 0 0 0 0 -21, over 0")
	checkLook(t, j, "4 3 2 1 0", "110, 111100, 0 0 0 0 21 0, over 1")
}

// TestP9_2Borne checks what just is borne, and what just is not: the densities
// are 3 and -3.
func TestP9_2Borne(t *testing.T) {
	hair := part(1, 1<<62).Times(part(1, 1<<62))
	for _, c := range []struct {
		tension, squash int
		margin          exact.Q
		want            string
	}{
		{3, 3, num("1"), "over -1"}, {3, 3, num("1").Plus(hair), "over 0"}, {2, 3, num("1"), "over 0"}, {3, 2, num("1"), "over 1"},
		{6, 5, num("5/3"), "over -1"}, {6, 5, num("5/3").Plus(hair), "over 1"}, {6, 5, num("5/3").Minus(hair), "over -1"},
		{5, 6, num("5/3"), "over -1"}, {5, 6, num("5/3").Plus(hair), "over 0"}, {5, 6, num("9"), "over 0"},
		{0, 0, num("0"), "over -1"}, {0, 0, hair, "over 0"}, {1, 0, hair, "over 1"}, {0, 1, hair, "over 0"},
		{6, 5, num("0"), "over -1"}, {6, 5, num("99999999999999999999999999"), "over 0"}, {api.MaxBear, api.MaxBear, num("333333333"), "over -1"},
	} {
		j := hanging()
		for i := range j.Truss.Bars {
			j.Truss.Bars[i].Tension, j.Truss.Bars[i].Squash = c.tension, c.squash
		}
		j.Margin = c.margin
		checkLook(t, j, "", "110, 111100, 0 0 0 0 12 0, "+c.want)
	}
}

// TestP9_2Numbers checks that what is not borne has its number in the job, and
// that bars that are not there bear nothing.
func TestP9_2Numbers(t *testing.T) {
	j := hanging("put 0")
	j.Truss.Bars = append([]api.Bar{bar(0, 1, 0, 0), bar(0, 2, 0, 0), bar(2, 1, 0, 0)}, j.Truss.Bars...)
	j.Absent = bools("111001")
	checkLook(t, j, "", "000110, 111100, 0 0 0 0 12 0, over -1")
	checkLook(t, j, "0", "100110, 111100, 0 0 0 0 12 0, over -1")
	j.Margin = num("2")
	checkLook(t, j, "", "000110, 111100, 0 0 0 0 12 0, over 4")
	checkLook(t, j, "0", "100110, 111100, 0 0 0 0 12 0, over 4")
	j.Margin = num("5/2")
	checkLook(t, j, "", "000110, 111100, 0 0 0 0 12 0, over 3")
	j.Absent = bools("110001")
	checkLook(t, j, "0", "101110, 111100, 0 0 0 0 12 0, over 2")
	j.Margin = num("0")
	checkLook(t, j, "", "001110, 111100, 0 0 0 0 12 0, over -1")
}

func TestP9_2Nothing(t *testing.T) {
	checkLook(t, repair.Job{}, "", ", , , over -1")
	acts := repair.Job{Steps: steps("act", "act")}
	checkLook(t, acts, "0 1", ", , , over -1")
	noLook(t, acts, []int{1}, api.ErrOrder)
	lonely := repair.Job{Truss: api.Truss{Joints: []api.Joint{joint(0, 0, "y")}}, Pushes: pushes("0 7"), Steps: steps("hold 0")}
	checkLook(t, lonely, "", ", 01, 0 7, moves, over -1")
	checkLook(t, lonely, "0", ", 11, 0 7, over -1")
}

func TestP9_2Errors(t *testing.T) {
	j := hanging("take 1", "put 2 after 3", "put 1", "hold 4", "let 4", "act 0 0 0 0 0 0 after 0 0", "act 0 0 0 0 1 0")
	for _, c := range []struct {
		done string
		want api.Errno
	}{
		{"7", api.ErrRange}, {"-1", api.ErrRange}, {"0 7", api.ErrRange}, {"0 2 9223372036854775807", api.ErrRange},
		{"-9223372036854775808 0", api.ErrRange}, {"10", api.ErrRange}, {"64", api.ErrRange}, {"4294967296", api.ErrRange},
		{"0 0", api.ErrTwice}, {"0 2 0", api.ErrTwice}, {"3 1 3", api.ErrTwice}, {"0 2 3 4 5 6 1 6", api.ErrTwice},
		{"1", api.ErrOrder}, {"2", api.ErrOrder}, {"4", api.ErrOrder}, {"5", api.ErrOrder}, {"6", api.ErrOrder},
		{"0 1", api.ErrOrder}, {"3 2", api.ErrOrder}, {"0 6", api.ErrOrder}, {"0 3 4 5 6 2 1", api.OK}, {"6 5 0", api.OK}, {"5", api.ErrOrder},
		{"0 0 7", api.ErrTwice}, {"7 0 0", api.ErrRange}, {"1 1", api.ErrTwice}, {"1 7", api.ErrRange}, {"1 1 7", api.ErrTwice}, {"1 7 1", api.ErrRange},
		{"7 7", api.ErrRange}, {"-1 -1", api.ErrRange},
	} {
		if c.want != api.OK {
			noLook(t, j, ints(c.done), c.want)
		} else if _, e := repair.Look(j, ints(c.done)); e != api.OK {
			t.Errorf("%s: error %d", c.done, e)
		}
	}
	noLook(t, repair.Job{}, []int{0}, api.ErrRange)
}

// TestP9_2Circle looks at steps that must be done before each other: the set of
// all of them is allowed, though no order leads to it.
func TestP9_2Circle(t *testing.T) {
	j := hanging("put 2 after 1", "put 1 after 2", "take 0 after 0", "take 2")
	checkLook(t, j, "2 1 0", "011, 111100, 0 0 0 0 12 0, moves, over -1")
	checkLook(t, j, "3 2 1 0", "010, 111100, 0 0 0 0 12 0, moves, over -1")
	for _, done := range []string{"0", "1", "2", "0 1", "1 2", "0 2", "3", "0 1 3"} {
		noLook(t, j, ints(done), api.ErrOrder)
	}
}

// TestP9_2Many looks at all sets of jobs at random, in any order.
func TestP9_2Many(t *testing.T) {
	r := rand.New(rand.NewSource(92))
	count := map[string]int{}
	for range 300 {
		j := someJob(r, 6)
		for bits := range 1 << len(j.Steps) {
			done := shuffled(r, subset(bits))
			if !isAllowedSet(j, done) {
				count["not allowed"]++
				noLook(t, j, done, api.ErrOrder)
				continue
			}
			want := stageOf(j, done)
			checkLook(t, j, intText(done), stageText(want))
			switch {
			case want.Moves:
				count["moves"]++
			case want.Over >= 0:
				count["over"]++
			default:
				count["safe"]++
			}
		}
	}
	for _, kind := range []string{"not allowed", "moves", "over", "safe"} {
		if count[kind] < 200 {
			t.Error("too few of a kind", count)
		}
	}
}
