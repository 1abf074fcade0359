package crack_test

import (
	"math/rand"
	"slices"

	"voussoir/api"
	"voussoir/crack"
	"voussoir/exact"
)

// someQ returns a number from low to high: an integer, a fraction, or now and
// then a very long one.
func someQ(r *rand.Rand, low, high int) exact.Q {
	x := whole(low + r.Intn(high-low+1))
	if x.Cmp(whole(high)) == 0 || r.Intn(3) > 0 {
		return x
	}
	if r.Intn(12) == 0 {
		long, _ := exact.Int(r.Int63()).Times(exact.Int(r.Int63())).Over(num("340282366920938463463374607431768211456"))
		return x.Plus(long)
	}
	return x.Plus(part(r.Intn(7), 7))
}

// someSize returns a valid span whose ends are at most so great.
func someSize(r *rand.Rand, most int) exact.Span {
	return exact.Between(someQ(r, 0, most), someQ(r, 0, most))
}

// someLaw returns a valid law of so many steps at random.
func someLaw(r *rand.Rand, steps int) []crack.Step {
	var s crack.Step
	s.Grow.High = someQ(r, 0, 1)
	var l []crack.Step
	for range steps {
		l = append(l, s)
		s.From = s.From.Plus(part(1+r.Intn(9), 1+r.Intn(2)))
		s.Grow.Low = exact.Between(s.Grow.Low.Plus(someQ(r, 0, 1)), s.Grow.High).Low
		s.Grow.High = s.Grow.High.Plus(someQ(r, 0, 2))
	}
	return l
}

// someGrid returns 0, or a number above it.
func someGrid(r *rand.Rand) exact.Q {
	if r.Intn(2) == 0 {
		return exact.Q{}
	}
	return part(1+r.Intn(4), 1+r.Intn(6))
}

// someTask returns jobs and teams at random, with not many more or fewer slots
// than jobs.
func someTask(r *rand.Rand, jobs, teams, calendar int) ([]api.Job, []api.Team) {
	var j []api.Job
	kinds := 1 + r.Intn(4)
	for range jobs {
		j = append(j, api.Job{Access: 2 * r.Intn(kinds), Deadline: r.Intn(calendar + 2)})
	}
	var t []api.Team
	for range teams {
		one := api.Team{Skills: uint8(r.Intn(256)) | 1<<(2*r.Intn(kinds)), Slots: make([]int, calendar)}
		for range 1 + r.Intn(1+2*jobs/teams) {
			one.Slots[r.Intn(calendar)]++
		}
		t = append(t, one)
	}
	return j, t
}

// between returns a number of a span: an end, or one between them.
func between(r *rand.Rand, s exact.Span) exact.Q {
	return s.Low.Plus(s.High.Minus(s.Low).Times(part(r.Intn(5), 4)))
}

// grownBy returns the size that a crack of a size may have after a period.
func grownBy(r *rand.Rand, l []crack.Step, size exact.Q) exact.Q {
	grow := growthAt(l, rat(size))
	return size.Plus(between(r, exact.Between(fromRat(grow.low), fromRat(grow.high))))
}

// around returns a valid span that has a number.
func around(r *rand.Rand, x exact.Q, most int) exact.Span {
	low := exact.Between(exact.Q{}, x.Minus(someQ(r, 0, most))).High
	if low.Cmp(x) > 0 {
		low = exact.Q{}
	}
	return exact.Span{Low: low, High: x.Plus(someQ(r, 0, most))}
}

// shuffled returns the numbers below n in some order.
func shuffled(r *rand.Rand, n int) []int { return slices.Clone(r.Perm(n)) }
