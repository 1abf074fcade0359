package crack

import (
	"slices"

	"voussoir/api"
)

// schedule is visits for some jobs: they suit them, and there are not more of
// them than slots.
type schedule struct {
	jobs   []api.Job
	crew   crew
	visits map[int]api.Visit // of the jobs that have one
	fixed  int               // so many jobs, the first ones, keep their visits
}

// scheduled returns a schedule with a visit for each job, if there is one.
func scheduled(jobs []api.Job, teams []api.Team) (*schedule, bool) {
	s := &schedule{jobs: jobs, crew: teams, visits: map[int]api.Visit{}}
	for job := range jobs {
		if !s.place(job, map[api.Visit]bool{}) {
			return nil, false
		}
	}
	return s, true
}

// settle gives a job the smallest visit that it can have while those before it
// keep theirs, and returns it. All jobs have a visit, so that there is one.
func (s *schedule) settle(job int) api.Visit {
	s.fixed = job
	for v := range s.crew.visits() {
		if s.crew.suits(v, s.jobs[job]) && s.exchange(job, v) {
			break
		}
	}
	return s.visits[job]
}

// exchange gives a job, instead of its visit, another one or the same one again,
// if all others can have one then.
func (s *schedule) exchange(job int, v api.Visit) bool {
	before := s.visits[job]
	delete(s.visits, job) // whoever has to make room may get this slot
	if s.admit(job, v, map[api.Visit]bool{}) {
		return true
	}
	s.visits[job] = before
	return false
}

// place gives a job a visit that was not tried, if that is possible.
func (s *schedule) place(job int, tried map[api.Visit]bool) bool {
	for v := range s.crew.visits() {
		if !tried[v] && s.crew.suits(v, s.jobs[job]) && s.admit(job, v, tried) {
			return true
		}
	}
	return false
}

// admit gives a job a visit, if there is a slot, or a job that has one can get
// another visit. A visit that was tried in vain before would be in vain again.
func (s *schedule) admit(job int, v api.Visit, tried map[api.Visit]bool) bool {
	tried[v] = true
	there := s.having(v)
	makesRoom := func(other int) bool { return other >= s.fixed && s.place(other, tried) }
	if len(there) < s.crew.slots(v) || slices.ContainsFunc(there, makesRoom) {
		s.visits[job] = v
		return true
	}
	return false
}

// having returns the jobs that have a visit.
func (s *schedule) having(v api.Visit) []int {
	var list []int
	for job := range s.jobs {
		if has, ok := s.visits[job]; ok && has == v {
			list = append(list, job)
		}
	}
	return list
}
