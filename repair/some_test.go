package repair_test

import (
	"math/rand"
	"slices"

	"voussoir/api"
	"voussoir/repair"
)

// someInt returns an integer from low to high.
func someInt(r *rand.Rand, low, high int) int { return low + r.Intn(high-low+1) }

// somePushes returns pushes at random.
func somePushes(r *rand.Rand, joints int) []api.Push {
	list := make([]api.Push, joints)
	for i := range list {
		list[i] = api.Push{X: someInt(r, -9, 9), Y: someInt(r, -9, 9)}
	}
	return list
}

// someTruss returns a truss at random: two joints that are held, one or two that
// hang on bars, and often one that can roll. Some of its bars bear little.
func someTruss(r *rand.Rand) api.Truss {
	s := api.Truss{Joints: []api.Joint{joint(0, 0, "xy"), joint(4, 0, "xy")}}
	for i := range 1 + r.Intn(2) {
		s.Joints = append(s.Joints, joint(someInt(r, 0, 4), 2+2*i+r.Intn(2), []string{"", "", "y"}[r.Intn(3)]))
	}
	add := func(a, b int) {
		x := bar(a, b, someInt(r, 4, 30), someInt(r, 4, 30))
		if r.Intn(6) == 0 {
			x.Tension, x.Squash = r.Intn(3), r.Intn(3)
		}
		if x.Stiff = someInt(r, 1, 4); r.Intn(2) == 0 {
			x.A, x.B = b, a
		}
		s.Bars = append(s.Bars, x)
	}
	for i := 2; i < len(s.Joints); i++ {
		add(0, i)
		add(1, i)
	}
	for range r.Intn(4) {
		a := r.Intn(len(s.Joints))
		add(a, (a+1+r.Intn(len(s.Joints)-1))%len(s.Joints))
	}
	return s
}

// someStep returns a step at random, mostly one that changes something.
func someStep(r *rand.Rand, j repair.Job) repair.Step {
	bar, direction := r.Intn(len(j.Truss.Bars)), r.Intn(2*len(j.Truss.Joints))
	if r.Intn(3) > 0 {
		direction = someInt(r, 4, 2*len(j.Truss.Joints)-1) // not of a support
	}
	switch r.Intn(9) {
	case 0, 1:
		return repair.Step{Kind: api.Act, Pushes: somePushes(r, len(j.Truss.Joints))}
	case 2, 3:
		return repair.Step{Kind: api.Hold, At: direction}
	case 4:
		return repair.Step{Kind: api.Let, At: direction}
	}
	if j.Absent[bar] != (r.Intn(5) == 0) {
		return repair.Step{Kind: api.Put, At: bar}
	}
	return repair.Step{Kind: api.Take, At: bar}
}

// someThread returns steps about one bar or direction at random, which undo each
// other.
func someThread(r *rand.Rand, j repair.Job) []repair.Step {
	s := someStep(r, j)
	for s.Kind == api.Act {
		s = someStep(r, j)
	}
	opposite := s
	opposite.Kind = []api.StepKind{0, api.Put, api.Take, api.Let, api.Hold}[s.Kind]
	return []repair.Step{s, opposite, s}[:1+r.Intn(3)]
}

// someSteps returns so many steps at random: each by itself, or in threads.
func someSteps(r *rand.Rand, j repair.Job, count int) []repair.Step {
	var list []repair.Step
	inThreads := r.Intn(2) == 0
	for len(list) < count {
		if !inThreads {
			list = append(list, someStep(r, j))
			continue
		}
		at := 0
		for _, s := range someThread(r, j) {
			at += r.Intn(len(list) - at + 1)
			list = slices.Insert(list, at, s)
			at++
		}
	}
	return list[:count]
}

// someJob returns a job at random with at most so many steps.
func someJob(r *rand.Rand, most int) repair.Job {
	if r.Intn(3) == 0 {
		return someSwaps(r, most)
	}
	j := repair.Job{Truss: someTruss(r), Margin: num([]string{"0", "1/3", "1", "1", "1", "3/2", "2"}[r.Intn(7)])}
	for i := range j.Truss.Bars {
		j.Absent = append(j.Absent, i > 3 && r.Intn(2) == 0 || r.Intn(25) == 0)
	}
	j.Pushes = somePushes(r, len(j.Truss.Joints))
	j.Steps = someSteps(r, j, r.Intn(most+1))
	for number := range j.Steps {
		for range r.Intn(3) * r.Intn(2) {
			if other := r.Intn(len(j.Steps)); other != number && (other < number || r.Intn(4) == 0) {
				j.Steps[number].After = append(j.Steps[number].After, other)
			}
		}
	}
	return j
}

// someSwaps returns a job at random that needs detours: a joint hangs on a few
// bars, of which some are taken away, and others are exchanged. What is exchanged
// must mostly be back before others are taken away.
func someSwaps(r *rand.Rand, most int) repair.Job {
	j := repair.Job{Margin: num("1"), Pushes: append(make([]api.Push, 4), somePushes(r, 1)...)}
	for i := range 4 {
		j.Truss.Joints = append(j.Truss.Joints, joint(2*i, 0, "xy"))
		j.Truss.Bars = append(j.Truss.Bars, bar(i, 4, someInt(r, 5, 20), someInt(r, 5, 20)))
	}
	j.Truss.Joints, j.Absent = append(j.Truss.Joints, joint(r.Intn(7), 3, "")), make([]bool, 4)
	swapped := 1 + r.Intn(2)
	for n, i := range r.Perm(4)[:swapped+1+r.Intn(2)] {
		thread := []repair.Step{{Kind: api.Take, At: i}, {Kind: api.Put, At: i}}
		if n >= swapped {
			thread = thread[:1]
		}
		at := 0
		for _, s := range thread {
			at += r.Intn(len(j.Steps) - at + 1)
			j.Steps = slices.Insert(j.Steps, at, s)
			at++
		}
	}
	j.Steps = j.Steps[:min(most, len(j.Steps))]
	return j
}

// subset returns the steps of a set whose bits say which steps are in it.
func subset(bits int) []int {
	var list []int
	for step := 0; bits>>step > 0; step++ {
		if bits>>step&1 == 1 {
			list = append(list, step)
		}
	}
	return list
}

// shuffled returns the steps of a set in some order.
func shuffled(r *rand.Rand, done []int) []int {
	var list []int
	for _, i := range r.Perm(len(done)) {
		list = append(list, done[i])
	}
	return list
}
