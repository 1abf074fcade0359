package repair_test

import (
	"slices"

	"voussoir/api"
	"voussoir/exact"
	"voussoir/repair"
)

// What is not valid, and the greatest that is.

// extremes returns integers that are outside of all ranges.
func extremes() []int {
	return []int{-1 << 63, 1<<63 - 1, -1 << 32, 1 << 32, -1 << 31, 1 << 31, -1}
}

// greatest returns a job of the greatest size: with as many joints, bars and
// steps as there may be, and numbers as great as they may be. All its sets are
// safe: each joint hangs on the two before it, and the steps only change what
// could be missing.
func greatest() repair.Job {
	j := repair.Job{
		Truss: api.Truss{Joints: []api.Joint{
			joint(-1000, -1000, "xy"), joint(1000, -999, "xy"), joint(-997, 1000, ""), joint(991, 983, ""),
			joint(-7, -11, ""), joint(13, 977, ""), joint(-983, 5, ""), joint(967, -29, ""),
		}},
		Absent: bools("0000000000001100"),
		Pushes: pushes("1000000 -1000000 1000000 1000000 -1000000 -1000000 1000000 0 0 1000000 -7 11 1000000 3 5 -1000000"),
		Steps: steps("put 12", "put 13", "take 14", "take 15", "hold 4", "hold 7", "hold 9", "hold 10", "hold 12",
			"act 3 -999999 1000000 1000000 -1000000 1000000 1000000 0 77 1000000 -7 999983 1000000 3 5 -1000000"),
		Margin: num("340282366920938463463374607431768211456/340282366920938463463374607431768211455"),
	}
	for i := range 6 {
		j.Truss.Bars = append(j.Truss.Bars, bar(i, i+2, api.MaxBear, api.MaxBear), bar(i+2, i+1, api.MaxBear, api.MaxBear))
	}
	for _, ends := range [][2]int{{0, 7}, {1, 6}, {2, 5}, {3, 7}} {
		j.Truss.Bars = append(j.Truss.Bars, bar(ends[0], ends[1], api.MaxBear, api.MaxBear))
	}
	for i := range j.Truss.Bars {
		j.Truss.Bars[i].Stiff = []int{api.MaxStiff, api.MaxStiff - 17, 1 + i}[i%3]
	}
	return j
}

// changed returns jobs, each of them a valid one after one change.
func changed(changes ...func(j *repair.Job)) []repair.Job {
	var list []repair.Job
	for _, change := range changes {
		j := cloned(hanging("take 1", "put 2 after 0", "hold 4", "act 1 2 3 4 5 6 after 0 2", "let 4"))
		change(&j)
		list = append(list, j)
	}
	return list
}

// wrongTrusses returns jobs that are not valid because of the truss, of what is
// absent, of the pushes, or of the margin.
func wrongTrusses() []repair.Job {
	list := changed(
		func(j *repair.Job) { j.Truss.Joints[1].X = 0 },
		func(j *repair.Job) { j.Truss.Joints[2].Y = api.MaxPlace + 1 },
		func(j *repair.Job) { j.Truss.Bars[0].B = 0 },
		func(j *repair.Job) { j.Truss.Bars[2].Stiff = 0 }, // also what is absent must be right
		func(j *repair.Job) { j.Truss.Bars[1].A = 3 },
		func(j *repair.Job) { j.Truss.Bars[1].Squash = -1 },
		func(j *repair.Job) { j.Truss = api.Truss{} },
		func(j *repair.Job) {
			*j = repair.Job{Truss: api.Truss{Joints: make([]api.Joint, 2)}, Pushes: make([]api.Push, 2)}
		},
		func(j *repair.Job) { j.Absent = nil },
		func(j *repair.Job) { j.Absent = j.Absent[:2] },
		func(j *repair.Job) { j.Absent = append(j.Absent, false) },
		func(j *repair.Job) { j.Absent = make([]bool, 1000) },
		func(j *repair.Job) { j.Pushes = nil },
		func(j *repair.Job) { j.Pushes = j.Pushes[:2] },
		func(j *repair.Job) { j.Pushes = append(j.Pushes, api.Push{}) },
		func(j *repair.Job) { j.Margin = num("-1") },
		func(j *repair.Job) { j.Margin = num("-1/340282366920938463463374607431768211456") },
	)
	for _, n := range append(extremes()[:6], -api.MaxPush-1, api.MaxPush+1) {
		list = append(list, changed(
			func(j *repair.Job) { j.Pushes[0].X = n },
			func(j *repair.Job) { j.Pushes[2].Y = n },
			func(j *repair.Job) { j.Steps[3].Pushes[1].X = n })...)
	}
	many := spread(3)
	for range api.MaxBars {
		many.Truss.Bars, many.Absent = append(many.Truss.Bars, bar(0, 2, 1, 1)), append(many.Absent, false)
	}
	return append(list, many)
}

// wrongSteps returns jobs that are not valid because of a step.
func wrongSteps() []repair.Job {
	list := changed(
		func(j *repair.Job) { j.Steps[0].Kind = 0 },
		func(j *repair.Job) { j.Steps[4].Kind = api.Act + 1 },
		func(j *repair.Job) { j.Steps[2].Kind = 255 },
		func(j *repair.Job) { j.Steps[0] = repair.Step{} },
		func(j *repair.Job) { j.Steps[0].At = len(j.Truss.Bars) },
		func(j *repair.Job) { j.Steps[1].At = len(j.Truss.Bars) },
		func(j *repair.Job) { j.Steps[2].At = 2 * len(j.Truss.Joints) },
		func(j *repair.Job) { j.Steps[4].At = 2 * len(j.Truss.Joints) },
		func(j *repair.Job) { j.Steps[3].At = 1 },
		func(j *repair.Job) { j.Steps[3].Pushes = nil },
		func(j *repair.Job) { j.Steps[3].Pushes = pushes("1 2 3 4") },
		func(j *repair.Job) { j.Steps[3].Pushes = pushes("1 2 3 4 5 6 7 8") },
		func(j *repair.Job) { j.Steps[0].Pushes = j.Pushes },
		func(j *repair.Job) { j.Steps[1].Pushes = j.Pushes },
		func(j *repair.Job) { j.Steps[2].Pushes = j.Pushes },
		func(j *repair.Job) { j.Steps[4].Pushes = j.Pushes },
		func(j *repair.Job) { j.Steps[4].Pushes = j.Pushes[:1] },
		func(j *repair.Job) { j.Steps = append(j.Steps, j.Steps[:1]...); j.Steps[5].At = 3 },
		func(j *repair.Job) { j.Steps = slices.Repeat(steps("take 1"), api.MaxSteps+1) },
		func(j *repair.Job) { j.Steps = slices.Repeat(steps("take 1"), 100) },
		func(j *repair.Job) { j.Truss.Bars, j.Absent = nil, nil },
		func(j *repair.Job) { *j = repair.Job{Steps: steps("take 0")} },
		func(j *repair.Job) { *j = repair.Job{Steps: steps("put 0")} },
		func(j *repair.Job) { *j = repair.Job{Steps: steps("hold 0")} },
		func(j *repair.Job) { *j = repair.Job{Steps: steps("let 0")} },
		func(j *repair.Job) { *j = repair.Job{Steps: steps("act 0 0")} },
	)
	for _, n := range extremes() {
		list = append(list, changed(
			func(j *repair.Job) { j.Steps[0].At = n },
			func(j *repair.Job) { j.Steps[1].At = n },
			func(j *repair.Job) { j.Steps[2].At = n },
			func(j *repair.Job) { j.Steps[3].At = n },
			func(j *repair.Job) { j.Steps[4].At = n })...)
	}
	return list
}

// wrongAfter returns jobs that are not valid because of what must be done before
// a step.
func wrongAfter() []repair.Job {
	list := changed(
		func(j *repair.Job) { j.Steps = j.Steps[:1]; j.Steps[0].After = []int{1} },
		func(j *repair.Job) { j.Steps[4].After = slices.Repeat([]int{0}, api.MaxSteps+1) },
		func(j *repair.Job) { j.Steps[4].After = slices.Repeat([]int{0}, 1000) },
	)
	for step := range 5 {
		for _, n := range append(extremes(), step, 5, api.MaxSteps) {
			list = append(list, changed(
				func(j *repair.Job) { j.Steps[step].After = []int{n} },
				func(j *repair.Job) { j.Steps[step].After = []int{(step + 1) % 5, n, (step + 2) % 5} })...)
		}
	}
	return list
}

// wrongJobs returns jobs that are not valid.
func wrongJobs() []repair.Job { return slices.Concat(wrongTrusses(), wrongSteps(), wrongAfter()) }

// validJobs returns jobs that are valid, at the limits of what is.
func validJobs() []repair.Job {
	list := changed(
		func(j *repair.Job) {},
		func(j *repair.Job) { j.Steps = nil },
		func(j *repair.Job) { j.Margin = exact.Q{} },
		func(j *repair.Job) { j.Margin = num("340282366920938463463374607431768211456") },
		func(j *repair.Job) { j.Steps[3].Pushes[2] = api.Push{X: api.MaxPush, Y: -api.MaxPush} },
		func(j *repair.Job) { j.Pushes[0] = api.Push{X: -api.MaxPush, Y: api.MaxPush} },
		func(j *repair.Job) { j.Steps[0].Pushes, j.Steps[0].After = []api.Push{}, []int{} },
		func(j *repair.Job) { j.Steps[0].At, j.Steps[2].At = 0, 0 },
		func(j *repair.Job) { j.Steps[0].At, j.Steps[2].At = 2, 5 },
		func(j *repair.Job) { j.Steps[1].At, j.Steps[4].At = 0, 0 },
		func(j *repair.Job) { j.Steps[4].At = 5 },
		func(j *repair.Job) { j.Steps[0].After, j.Steps[1].After = []int{1}, []int{0} }, // which can never be done
		func(j *repair.Job) { j.Steps[4].After = slices.Repeat([]int{0}, api.MaxSteps) },
		func(j *repair.Job) { j.Steps = slices.Repeat(steps("take 1"), api.MaxSteps) },
		func(j *repair.Job) {
			j.Steps = slices.Repeat(steps("hold 3"), api.MaxSteps)
			j.Steps[0].After = []int{9, 8, 7, 6, 5, 4, 3, 2, 1, 9}
		},
	)
	nothing := repair.Job{Steps: steps("act", "act")}
	return append(list, nothing, greatest(), spread(api.MaxSteps))
}
