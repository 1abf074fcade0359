package crack_test

import (
	"math/rand"
	"slices"
	"testing"

	"voussoir/api"
	"voussoir/crack"
)

// task is jobs and teams, as texts.
type task struct {
	jobs  string
	teams []string
}

// read returns the jobs and the teams of a task.
func (x task) read() ([]api.Job, []api.Team) { return jobs(x.jobs), teams(x.teams...) }

// checkPlan checks what Plan returns.
func checkPlan(t *testing.T, j []api.Job, crew []api.Team, want string) {
	t.Helper()
	plan, e := crack.Plan(j, crew)
	if e != api.OK || visitTexts(plan) != want {
		t.Errorf("%s: %s, error %d, not %s", taskText(j, crew), visitTexts(plan), e, want)
	}
	if n, e := crack.CheckPlan(j, crew, plan); e != api.OK || n != -1 {
		t.Errorf("%s: the job %d of %s is wrong, error %d", taskText(j, crew), n, visitTexts(plan), e)
	}
	if block, e := crack.Block(j, crew); e != api.ErrPlan || len(block) != 0 {
		t.Errorf("%s: a plan, and the block %v, error %d", taskText(j, crew), block, e)
	}
}

// noPlan checks that there is no plan but a block.
func noPlan(t *testing.T, j []api.Job, crew []api.Team, want string) {
	t.Helper()
	if plan, e := crack.Plan(j, crew); e != api.ErrCrew || len(plan) != 0 {
		t.Errorf("%s: %s, error %d", taskText(j, crew), visitTexts(plan), e)
	}
	block, e := crack.Block(j, crew)
	if e != api.OK || intTexts(block) != want {
		t.Errorf("%s: %v, error %d, not %s", taskText(j, crew), block, e, want)
	}
	proves(t, j, crew, block, true)
}

// proves checks what Proves returns.
func proves(t *testing.T, j []api.Job, crew []api.Team, block []int, want bool) {
	t.Helper()
	if ok, e := crack.Proves(j, crew, block); e != api.OK || ok != want {
		t.Errorf("%s: %v: %v, error %d", taskText(j, crew), block, ok, e)
	}
}

func TestP7_5Plan(t *testing.T) {
	for _, c := range []struct {
		task
		want string
	}{
		{task{"0<1 0<0", []string{"0: 1 1"}}, "1/0 0/0"},
		{task{"0<0 0<1", []string{"0: 1 1"}}, "0/0 1/0"},
		{task{"", nil}, ""}, {task{"", []string{"0:"}}, ""}, {task{"", []string{"0: 0 20"}}, ""},
		// The period counts more than the team, and earlier jobs more than later ones.
		{task{"0<5", []string{"0: 0 1 1", "0: 0 1 1", "0: 0 0 1"}}, "1/0"},
		{task{"0<5", []string{"0: 0 0 1", "0: 0 1 1", "0: 0 1 1"}}, "1/1"},
		{task{"0<5 0<5 0<5 0<5", []string{"0: 1 1", "0: 0 1", "0: 1 0"}}, "0/0 0/2 1/0 1/1"},
		{task{"0<0 0<0 0<0", []string{"0: 2", "0: 1"}}, "0/0 0/0 0/1"},
		{task{"0<200 0<200", []string{"0: 0 0 1 1"}}, "2/0 3/0"},
		// Only one team can do a job: another job has to go without it.
		{task{"0<0 1<0", []string{"01: 1", "0: 1"}}, "0/1 0/0"}, {task{"0<0 1<0", []string{"0: 1", "01: 1"}}, "0/0 0/1"},
		{task{"0<1 1<0", []string{"01: 1 1"}}, "1/0 0/0"},
		// Not the one in the way has to go, but one behind it.
		{task{"0<9 1<9 2<9 2<9", []string{"01: 1 0", "12: 1 0", "2: 1 1"}}, "0/0 0/1 0/2 1/2"},
		{task{"7<0 6<0 5<0", []string{"567: 1", "56: 1", "5: 1"}}, "0/0 0/1 0/2"}, {task{"5<0 6<0 7<0", []string{"567: 1", "56: 1", "5: 1"}}, "0/2 0/1 0/0"},
		{task{"0<3 0<2 0<1 0<0", []string{"0: 1 1 1 1"}}, "3/0 2/0 1/0 0/0"}, {task{"0<3 0<3 0<1 0<0", []string{"0: 1 1 1 1"}}, "2/0 3/0 1/0 0/0"},
		{task{"0<1 0<1 0<0", []string{"0: 2 1"}}, "0/0 1/0 0/0"},
	} {
		j, crew := c.read()
		checkPlan(t, j, crew, c.want)
	}
}

// TestP7_5Some tries all lists of visits, and for greater tasks all first
// visits of what is left.
func TestP7_5Some(t *testing.T) {
	r := rand.New(rand.NewSource(75))
	count := map[bool]int{}
	for i := range 600 {
		j, crew := someTask(r, 1+r.Intn(5), 1+r.Intn(3), 1+r.Intn(4))
		want, found := firstPlan(j, crew, nil)
		if i%6 == 0 {
			j, crew = someTask(r, 6+r.Intn(12), 1+r.Intn(4), 3+r.Intn(6))
			want, found = smallestPlan(j, crew)
		}
		count[found]++
		if found {
			checkPlan(t, j, crew, visitTexts(want))
		} else if plan, e := crack.Plan(j, crew); e != api.ErrCrew || len(plan) != 0 {
			t.Errorf("%s: %s, error %d", taskText(j, crew), visitTexts(plan), e)
		}
	}
	if count[true] < 150 || count[false] < 150 {
		t.Error("too few of a kind", count)
	}
}

func TestP7_5Errors(t *testing.T) {
	refusesTasks(t, "Plan")
	for _, c := range []task{
		{"0<0", nil}, {"0<0", []string{"0:"}}, {"0<0", []string{"0: 0"}}, {"0<0", []string{"1: 1"}}, {"0<0", []string{": 1"}}, {"0<0 0<0", []string{"0: 1 1"}},
		{"0<0", []string{"0: 0 1"}}, {"0<1 0<1 0<1", []string{"0: 1 1"}}, {"7<200", []string{"0123456: 20 20"}}, {"0<0 0<0 0<5", []string{"0: 1 1"}},
		{"0<0 1<0 2<0", []string{"012: 1", "012: 1", "3: 20"}},
	} {
		j, crew := c.read()
		if plan, e := crack.Plan(j, crew); e != api.ErrCrew || len(plan) != 0 {
			t.Errorf("%s: %s, error %d", taskText(j, crew), visitTexts(plan), e)
		}
	}
}

// TestP7_5Limits tries as many jobs, teams, periods and slots as there may be.
func TestP7_5Limits(t *testing.T) {
	full := slices.Repeat([]api.Team{{Skills: 1 << 7, Slots: slices.Repeat([]int{api.MaxSlots}, api.MaxCalendar)}}, api.MaxTeams)
	late := slices.Repeat([]api.Job{{Access: 7, Deadline: api.MaxAhead}}, api.MaxJobs)
	want := append(slices.Repeat(visits("0/0"), api.MaxSlots), slices.Repeat(visits("0/1"), api.MaxJobs-api.MaxSlots)...)
	checkPlan(t, late, full, visitTexts(want))
	for k := range full {
		full[k].Slots = make([]int, api.MaxCalendar)
	}
	full[7].Slots[39] = api.MaxSlots
	checkPlan(t, late[:20], full, visitTexts(slices.Repeat(visits("39/7"), 20)))
	noPlan(t, late[:21], full, "0 1 2 3 4 5 6 7 8 9 10 11 12 13 14 15 16 17 18 19 20")
}

func TestP7_6CheckPlan(t *testing.T) {
	for _, c := range []struct {
		task
		plan string
		want int
	}{
		{task{"0<1 0<0", []string{"0: 1 1"}}, "1/0 0/0", -1},
		{task{"0<1 0<0", []string{"0: 1 1"}}, "", 0}, {task{"0<1 0<0", []string{"0: 1 1"}}, "1/0", 1}, {task{"0<1 0<0", []string{"0: 1 1"}}, "1/0 0/0 0/0", 2},
		{task{"0<1 0<0", []string{"0: 1 1"}}, "0/0 0/0", 1}, {task{"0<1 0<0", []string{"0: 1 1"}}, "0/0 1/0", 1}, {task{"0<1 0<0", []string{"0: 1 1"}}, "2/0 0/0", 0},
		{task{"", nil}, "", -1}, {task{"", nil}, "0/0", 0}, {task{"", []string{"0: 1"}}, "0/0 0/0", 0}, {task{"0<0", nil}, "0/0", 0}, {task{"0<0", nil}, "", 0},
		// A plan need not be the smallest one.
		{task{"0<5 0<5", []string{"0: 2 2 2"}}, "2/0 2/0", -1}, {task{"0<5 0<5", []string{"0: 2 2 2"}}, "2/0 0/0", -1},
		// Periods, teams, skills and deadlines.
		{task{"0<5", []string{"0: 1 1"}}, "2/0", 0}, {task{"0<5", []string{"0: 1 1"}}, "-1/0", 0}, {task{"0<5", []string{"0: 1 1"}}, "0/1", 0}, {task{"0<5", []string{"0: 1 1"}}, "0/-1", 0},
		{task{"0<1", []string{"0: 1 1 1"}}, "1/0", -1}, {task{"0<1", []string{"0: 1 1 1"}}, "2/0", 0}, {task{"0<0", []string{"0: 1 1 1"}}, "0/0", -1},
		{task{"1<1", []string{"0: 1", "1: 1"}}, "0/0", 0}, {task{"1<1", []string{"0: 1", "1: 1"}}, "0/1", -1}, {task{"7<1", []string{"0123456: 1", "7: 1"}}, "0/0", 0},
		{task{"7<1", []string{"0123456: 1", "7: 1"}}, "0/1", -1}, {task{"0<1", []string{"1234567: 1"}}, "0/0", 0},
		// Too many of a team and period.
		{task{"0<5 0<5 0<5 0<5", []string{"0: 3 1", "0: 1 1"}}, "0/0 0/0 0/0 0/0", 3}, {task{"0<5 0<5 0<5 0<5", []string{"0: 3 1", "0: 1 1"}}, "0/0 0/1 0/0 0/0", -1},
		{task{"0<5 0<5 0<5 0<5", []string{"0: 3 1", "0: 1 1"}}, "1/1 1/0 0/0 1/1", 3}, {task{"0<5 0<5 0<5 0<5", []string{"0: 3 1", "0: 1 1"}}, "1/1 1/1 0/0 1/1", 1},
		{task{"0<5", []string{"0: 0 1"}}, "0/0", 0}, {task{"0<5", []string{"0: 0 1"}}, "1/0", -1},
		// The first one that is wrong, whatever is wrong with it.
		{task{"0<5 1<5 0<5", []string{"0: 1 1"}}, "0/0 0/0 0/0", 1}, {task{"0<5 0<5 1<5", []string{"0: 1 1"}}, "0/0 0/0 0/0", 1}, {task{"0<5 0<5 1<5", []string{"0: 1 1"}}, "9/0 0/0", 0},
		{task{"0<5 0<5", []string{"0: 1 1"}}, "0/0 0/0 0/0", 1}, {task{"0<5 0<5", []string{"0: 1 1"}}, "0/0 1/0 0/0", 2}, {task{"0<5 0<5", []string{"0: 1 1"}}, "0/0 1/0 9/9 9/9 9/9", 2},
		{task{"0<5", []string{"0: 20"}}, "0/0 0/0 0/0", 1},
		{task{"0<5", []string{"0: 20"}}, "-9223372036854775808/0", 0}, {task{"0<5", []string{"0: 20"}}, "0/9223372036854775807", 0}, {task{"0<5", []string{"0: 20"}}, "4294967296/4294967296", 0},
	} {
		j, crew := c.read()
		if n, e := crack.CheckPlan(j, crew, visits(c.plan)); e != api.OK || n != c.want {
			t.Errorf("%s: %s: %d, error %d, not %d", taskText(j, crew), c.plan, n, e, c.want)
		}
	}
	refusesTasks(t, "CheckPlan")
}

func TestP7_6Some(t *testing.T) {
	r := rand.New(rand.NewSource(76))
	count := map[string]int{}
	for range 500 {
		j, crew := someTask(r, 1+r.Intn(6), 1+r.Intn(3), 1+r.Intn(4))
		plan, _ := crack.Plan(j, crew)
		for range 6 {
			want := firstWrong(j, crew, plan)
			count[wrongKind(want, len(j), len(plan))]++
			if n, e := crack.CheckPlan(j, crew, plan); e != api.OK || n != want {
				t.Fatalf("%s: %s: %d, error %d, not %d", taskText(j, crew), visitTexts(plan), n, e, want)
			}
			v := api.Visit{Period: r.Intn(6) - 1, Team: r.Intn(5) - 1}
			if k := r.Intn(len(j)); k < len(plan) && r.Intn(3) > 0 {
				plan[k] = v
			} else {
				plan = append(plan, v)
			}
		}
	}
	for _, kind := range []string{"plan", "long", "missing", "wrong"} {
		if count[kind] < 50 {
			t.Error("too few of a kind", count)
		}
	}
}

// wrongKind says what is wrong with a list of visits.
func wrongKind(n, jobs, visits int) string {
	switch n {
	case -1:
		return "plan"
	case jobs:
		return "long"
	case visits:
		return "missing"
	}
	return "wrong"
}

func TestP7_7Block(t *testing.T) {
	for _, c := range []struct {
		task
		want string
	}{
		{task{"0<0 0<0 0<5", []string{"0: 1 1"}}, "0 1"},
		{task{"0<0", nil}, "0"}, {task{"0<0 0<0", nil}, "0"}, {task{"3<0 2<9 1<7", []string{"0: 1"}}, "0"}, {task{"0<0", []string{"0:"}}, "0"}, {task{"0<0 1<0 2<0", []string{"0: 20"}}, "1"},
		{task{"0<5 0<0 0<0", []string{"0: 1 1 1"}}, "1 2"}, {task{"0<0 0<5 0<0", []string{"0: 1 1 1"}}, "0 2"}, {task{"0<0 0<5 0<0 0<0", []string{"0: 1 1 1"}}, "0 2"},
		{task{"0<2 0<2 0<1 0<0", []string{"0: 1 1 1"}}, "0 1 2 3"}, {task{"0<2 0<2 0<2 0<2 0<0 0<0", []string{"0: 1 1 1"}}, "0 1 2 3"}, {task{"0<0 0<0 0<2 0<2 0<2 0<2", []string{"0: 1 1 1"}}, "0 1"},
		{task{"0<0 1<0 2<0 3<9", []string{"01: 1", "12: 1", "3: 1"}}, "0 1 2"}, {task{"0<1 1<1 0<1 1<1 0<1", []string{"0: 1 1", "1: 1 1"}}, "0 2 4"},
		{task{"7<3 7<3 7<3", []string{"7: 1 0 1 0 1"}}, "0 1 2"},
	} {
		j, crew := c.read()
		noPlan(t, j, crew, c.want)
	}
	refusesTasks(t, "Block")
}

func TestP7_7BlockSome(t *testing.T) {
	r := rand.New(rand.NewSource(77))
	count := map[bool]int{}
	for range 500 {
		j, crew := someTask(r, 1+r.Intn(8), 1+r.Intn(3), 1+r.Intn(4))
		block, e := crack.Block(j, crew)
		blocked := hasBlock(j, crew)
		count[blocked]++
		if blocked && (e != api.OK || !slices.Equal(block, leftOut(j, crew))) || !blocked && (e != api.ErrPlan || len(block) != 0) {
			t.Fatalf("%s: %v, error %d, not %v", taskText(j, crew), block, e, leftOut(j, crew))
		}
	}
	if count[true] < 50 || count[false] < 50 {
		t.Error("too few of a kind", count)
	}
}

func TestP7_7Proves(t *testing.T) {
	for _, c := range []struct {
		task
		block string
		want  bool
	}{
		{task{"0<0 0<0 0<5", []string{"0: 1 1"}}, "0 1", true}, {task{"0<0 0<0 0<5", []string{"0: 1 1"}}, "1 0", true}, {task{"0<0 0<0 0<5", []string{"0: 1 1"}}, "0 1 2", true},
		{task{"0<0 0<0 0<5", []string{"0: 1 1"}}, "2 0 1", true}, {task{"0<0 0<0 0<5", []string{"0: 1 1"}}, "0 2", false}, {task{"0<0 0<0 0<5", []string{"0: 1 1"}}, "0", false},
		{task{"0<0 0<0 0<5", []string{"0: 1 1"}}, "", false}, {task{"0<0 0<0 0<5", []string{"0: 1 1"}}, "0 0", false}, {task{"0<0 0<0 0<5", []string{"0: 1 1"}}, "0 1 1", false},
		{task{"0<0 0<0 0<5", []string{"0: 1 1"}}, "0 1 3", false}, {task{"0<0 0<0 0<5", []string{"0: 1 1"}}, "0 1 -1", false}, {task{"0<0 0<0 0<5", []string{"0: 1 1"}}, "-1 0 1", false},
		{task{"0<0 0<0 0<5", []string{"0: 1 1"}}, "0 1 2 0 1 2", false}, {task{"0<0 0<0 0<5", []string{"0: 1 1"}}, "9223372036854775807", false}, {task{"0<0", []string{"1: 1"}}, "-9223372036854775808", false},
		{task{"0<0 0<0 0<5", []string{"0: 1 2"}}, "0 1 2", false}, {task{"0<0 0<0 0<5", []string{"0: 2 0"}}, "0 1 2", true}, {task{"0<0 0<0 0<5", []string{"0: 2 1"}}, "0 1 2", false},
		{task{"", nil}, "", false}, {task{"", []string{"0: 0"}}, "", false}, {task{"0<0", nil}, "0", true}, {task{"0<0", nil}, "", false}, {task{"0<0", []string{"0:"}}, "0", true},
		// Slots that suit several of the jobs count once; those that suit none, not at all.
		{task{"0<0 1<0 2<0", []string{"01: 1", "12: 1", "3: 9"}}, "0 1 2", true}, {task{"0<0 1<0 2<0", []string{"01: 1", "12: 1", "2: 1"}}, "0 1 2", false},
		{task{"0<0 0<0 0<1", []string{"0: 1 1 20"}}, "0 1 2", true}, {task{"0<0 0<0 0<2", []string{"0: 1 1 20"}}, "0 1 2", false}, {task{"0<0 0<0 0<2", []string{"0: 1 1 20"}}, "0 1", true},
		{task{"0<1 0<1 0<1 0<1", []string{"0: 1 1", "0: 1 0"}}, "0 1 2 3", true}, {task{"0<1 0<1 0<1 0<1", []string{"0: 1 1", "0: 1 0"}}, "3 2 1", false},
	} {
		j, crew := c.read()
		proves(t, j, crew, ints(c.block), c.want)
	}
	refusesTasks(t, "Proves")
}

func TestP7_7ProvesSome(t *testing.T) {
	r := rand.New(rand.NewSource(78))
	count := map[bool]int{}
	for range 600 {
		j, crew := someTask(r, 1+r.Intn(6), 1+r.Intn(3), 1+r.Intn(4))
		block := shuffled(r, len(j))[r.Intn(len(j)):]
		if r.Intn(5) == 0 {
			block = append(block, r.Intn(len(j)+2)-1)
		}
		want := isBlock(j, crew, block)
		count[want]++
		proves(t, j, crew, block, want)
	}
	if count[true] < 50 || count[false] < 50 {
		t.Error("too few of a kind", count)
	}
}
