package crack

import (
	"slices"

	"voussoir/api"
)

// Plan returns the smallest plan.
func Plan(jobs []api.Job, teams []api.Team) ([]api.Visit, api.Errno) {
	if !areJobs(jobs) || !areTeams(teams) {
		return nil, api.ErrArg
	}
	s, complete := scheduled(jobs, teams)
	if !complete {
		return nil, api.ErrCrew
	}
	var plan []api.Visit
	for job := range jobs {
		plan = append(plan, s.settle(job))
	}
	return plan, api.OK
}

// CheckPlan returns -1 if a list is a plan, otherwise the first job that is wrong.
func CheckPlan(jobs []api.Job, teams []api.Team, plan []api.Visit) (int, api.Errno) {
	if !areJobs(jobs) || !areTeams(teams) {
		return 0, api.ErrArg
	}
	made := map[api.Visit]int{}
	for i, job := range jobs {
		if i >= len(plan) || !crew(teams).suits(plan[i], job) {
			return i, api.OK
		}
		made[plan[i]]++
		if made[plan[i]] > crew(teams).slots(plan[i]) {
			return i, api.OK
		}
	}
	if len(plan) > len(jobs) {
		return len(jobs), api.OK
	}
	return -1, api.OK
}

// Block returns jobs for which there are not enough slots.
//
// Of the jobs that remain, none can be left out. Among jobs without a plan there
// is always a block (Hall's theorem), and as a block has no plan either, it has
// all that remain.
func Block(jobs []api.Job, teams []api.Team) ([]int, api.Errno) {
	if !areJobs(jobs) || !areTeams(teams) {
		return nil, api.ErrArg
	}
	if _, complete := scheduled(jobs, teams); complete {
		return nil, api.ErrPlan
	}
	var left []int
	for job := range jobs {
		left = append(left, job)
	}
	for job := range slices.Backward(jobs) {
		fewer := slices.DeleteFunc(slices.Clone(left), func(other int) bool { return other == job })
		if _, complete := scheduled(chosen(jobs, fewer), teams); !complete {
			left = fewer
		}
	}
	return left, api.OK
}

// Proves reports whether jobs are a block.
func Proves(jobs []api.Job, teams []api.Team, block []int) (bool, api.Errno) {
	if !areJobs(jobs) || !areTeams(teams) {
		return false, api.ErrArg
	}
	if !areDifferent(block, len(jobs)) {
		return false, api.OK
	}
	blocked, slots := chosen(jobs, block), 0
	for v := range crew(teams).visits() {
		if slices.ContainsFunc(blocked, func(j api.Job) bool { return crew(teams).suits(v, j) }) {
			slots += crew(teams).slots(v)
		}
	}
	return len(block) > slots, api.OK
}

// chosen returns the jobs with some numbers.
func chosen(jobs []api.Job, numbers []int) []api.Job {
	var list []api.Job
	for _, n := range numbers {
		list = append(list, jobs[n])
	}
	return list
}

// areDifferent reports whether numbers are different ones of so many jobs.
func areDifferent(numbers []int, jobs int) bool {
	found := map[int]bool{}
	for _, n := range numbers {
		if !isFrom(0, n, jobs-1) || found[n] {
			return false
		}
		found[n] = true
	}
	return true
}
