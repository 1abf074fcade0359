package crack_test

import (
	"slices"
	"strconv"
	"strings"
	"testing"

	"voussoir/api"
	"voussoir/crack"
	"voussoir/exact"
)

// num returns the number of a text; it panics if there is none.
func num(s string) exact.Q {
	x, e := exact.Read(s)
	if e != api.OK {
		panic("not a number: " + s)
	}
	return x
}

// whole returns an integer.
func whole(n int) exact.Q { return exact.Int(int64(n)) }

// part returns a fraction whose denominator is not 0.
func part(a, b int) exact.Q {
	x, _ := exact.Of(int64(a), int64(b))
	return x
}

// integer returns the integer of a text.
func integer(s string) int {
	n, e := strconv.Atoi(s)
	if e != nil {
		panic(e)
	}
	return n
}

// ints returns the integers of a text, with blanks between them.
func ints(s string) []int { return eachWord(s, integer) }

// eachWord returns what a function reads in each word of a text.
func eachWord[T any](s string, read func(string) T) []T {
	var list []T
	for _, word := range strings.Fields(s) {
		list = append(list, read(word))
	}
	return list
}

// cut returns the two parts of a text.
func cut(s, between string) (a, b string) {
	a, b, found := strings.Cut(s, between)
	if !found {
		panic("no " + between + " in " + s)
	}
	return a, b
}

// span returns the span of a text, such as 8..9, with its ends as they stand.
func span(s string) exact.Span {
	low, high := cut(s, "..")
	return exact.Span{Low: num(low), High: num(high)}
}

// spans returns the spans of a text, with blanks between them.
func spans(s string) []exact.Span { return eachWord(s, span) }

// law returns the growth law of a text, such as 0:1..2 10:2..5.
func law(s string) []crack.Step {
	return eachWord(s, func(word string) crack.Step {
		from, grow := cut(word, ":")
		return crack.Step{From: num(from), Grow: span(grow)}
	})
}

// jobs returns the jobs of a text: of each the access and the deadline, such as
// 0<1 3<0.
func jobs(s string) []api.Job {
	return eachWord(s, func(word string) api.Job {
		access, deadline := cut(word, "<")
		return api.Job{Access: integer(access), Deadline: integer(deadline)}
	})
}

// team returns the team of a text: the kinds of access that it can use, and its
// slots, such as 02: 1 1.
func team(s string) api.Team {
	skills, slots := cut(s, ":")
	t := api.Team{Slots: ints(slots)}
	for _, access := range skills {
		t.Skills |= 1 << (access - '0')
	}
	return t
}

// teams returns the teams of texts.
func teams(texts ...string) []api.Team {
	var list []api.Team
	for _, s := range texts {
		list = append(list, team(s))
	}
	return list
}

// visits returns the visits of a text: of each the period and the team, such as
// 1/0 0/0.
func visits(s string) []api.Visit {
	return eachWord(s, func(word string) api.Visit {
		period, team := cut(word, "/")
		return api.Visit{Period: integer(period), Team: integer(team)}
	})
}

// joined returns the texts of the elements of a list, with blanks between them.
func joined[T any](list []T, text func(T) string) string {
	var words []string
	for _, x := range list {
		words = append(words, text(x))
	}
	return strings.Join(words, " ")
}

// spanText returns a span as span reads it.
func spanText(s exact.Span) string { return s.Low.Text() + ".." + s.High.Text() }

// spanTexts returns spans as spans reads them.
func spanTexts(list []exact.Span) string { return joined(list, spanText) }

// intTexts returns integers as ints reads them.
func intTexts(list []int) string { return joined(list, strconv.Itoa) }

// lawText returns a law as law reads it.
func lawText(l []crack.Step) string {
	return joined(l, func(s crack.Step) string { return s.From.Text() + ":" + spanText(s.Grow) })
}

// jobTexts returns jobs as jobs reads them.
func jobTexts(list []api.Job) string {
	return joined(list, func(j api.Job) string { return strconv.Itoa(j.Access) + "<" + strconv.Itoa(j.Deadline) })
}

// teamTexts returns teams as one text.
func teamTexts(list []api.Team) string {
	return joined(list, func(t api.Team) string {
		return "[" + strconv.FormatUint(uint64(t.Skills), 2) + ": " + intTexts(t.Slots) + "]"
	})
}

// visitTexts returns visits as visits reads them.
func visitTexts(list []api.Visit) string {
	return joined(list, func(v api.Visit) string { return strconv.Itoa(v.Period) + "/" + strconv.Itoa(v.Team) })
}

// dueTexts returns elements with their deadlines as one text, such as a 3 b 4.
func dueTexts(list []api.Due) string {
	return joined(list, func(d api.Due) string { return d.Name + " " + strconv.Itoa(d.Deadline) })
}

// agreementText returns an agreement as one text, such as 10..10 by 0 1, doubt.
func agreementText(a crack.Agreement) string {
	text := spanText(a.Size) + " by " + intTexts(a.Used)
	if a.Doubt {
		text += ", doubt"
	}
	return text
}

// taskText returns jobs and teams as one text.
func taskText(j []api.Job, t []api.Team) string { return jobTexts(j) + " with " + teamTexts(t) }

// isZero reports whether a span is that of 0 alone.
func isZero(s exact.Span) bool { return s.Low.Sign() == 0 && s.High.Sign() == 0 }

// isNothing reports whether an agreement has its zero value.
func isNothing(a crack.Agreement) bool { return isZero(a.Size) && len(a.Used) == 0 && !a.Doubt }

// extremeInts returns integers that are outside of most ranges.
func extremeInts() []int { return []int{-1 << 63, 1<<63 - 1, -1 << 32, 1 << 32, -1 << 31, 1 << 31, -1} }

// longLaw returns a law of so many steps.
func longLaw(steps int) []crack.Step {
	var l []crack.Step
	for i := range steps {
		l = append(l, crack.Step{From: whole(i), Grow: exact.Span{Low: whole(i), High: whole(2 * i)}})
	}
	return l
}

// wrongLaws returns laws that are not valid.
func wrongLaws() [][]crack.Step {
	list := [][]crack.Step{nil, {}, longLaw(api.MaxGrowth + 1), longLaw(9 * api.MaxGrowth)}
	for _, s := range []string{
		"1:1..2", "-1:1..2", "1/1000:1..2", "-1/340282366920938463463374607431768211456:1..2", "1:1..2 0:1..2",
		"0:1..2 0:1..2", "0:1..2 10:2..5 10:2..5", "0:1..2 10:2..5 9:2..5", "0:1..2 -1:2..5", "0:1..2 10:2..5 5:2..5 20:2..5",
		"0:-1..2", "0:-1..-1", "0:-1/9..0", "0:2..1", "0:0..-1", "0:2..-1", "0:1..2 10:5..2", "0:1..2 10:3..5 20:6..5",
		"0:1..2 10:0..5", "0:1..2 10:1..1", "0:1..2 10:0..1", "0:1..2 10:2..5 20:2..4", "0:1..2 10:2..5 20:1..5", "0:1..2 10:1..3/2 20:1..2",
		"0:2..2 10:1..1 20:3..3",
	} {
		list = append(list, law(s))
	}
	return list
}

// wrongSizes returns spans that are not valid.
func wrongSizes() []exact.Span {
	return spans("1..0 9..8 -1..0 -1..1 0..-1 1..-1 -2..-1 -1/9..5 -1..-1 9/2..4")
}

// wrongJobs returns lists of jobs that are not valid.
func wrongJobs() [][]api.Job {
	list := [][]api.Job{
		slices.Repeat(jobs("0<0"), api.MaxJobs+1), slices.Repeat(jobs("0<0"), 300),
		jobs("8<0"), jobs("-1<0"), jobs("0<201"), jobs("0<-1"), jobs("0<0 8<0"), jobs("0<0 0<0 0<201"), jobs("0<-1 0<0"), jobs("16<0"),
	}
	for _, n := range extremeInts() {
		list = append(list, []api.Job{{Access: n}}, []api.Job{{Deadline: n}})
	}
	return list
}

// wrongTeams returns lists of teams that are not valid.
func wrongTeams() [][]api.Team {
	list := [][]api.Team{
		slices.Repeat(teams("0: 1 1"), api.MaxTeams+1), slices.Repeat(teams("0:"), 300),
		{{Slots: make([]int, api.MaxCalendar+1)}}, slices.Repeat([]api.Team{{Slots: make([]int, api.MaxCalendar+1)}}, 2),
		teams("0: 1 1", "0: 1"), teams("0: 1", "0: 1 1"), teams("0: 1", "0:"), teams("0:", "0: 1"), teams("0: 1", "0: 1", "0: 1 1"),
		teams("0: 21"), teams("0: -1"), teams("0: 1 21"), teams("0: 1 1", "0: 1 -1"), teams("0: 1 1", "0: 21 1"),
	}
	for _, n := range extremeInts() {
		list = append(list, []api.Team{{Slots: []int{n}}})
	}
	return list
}

// planner is a function about jobs and teams: it returns its error, and whether
// every other result is zero.
type planner func(j []api.Job, t []api.Team) (zero bool, e api.Errno)

// planners returns all functions about jobs and teams.
func planners() map[string]planner {
	return map[string]planner{
		"Plan": func(j []api.Job, t []api.Team) (bool, api.Errno) {
			plan, e := crack.Plan(j, t)
			return len(plan) == 0, e
		},
		"CheckPlan": func(j []api.Job, t []api.Team) (bool, api.Errno) {
			n, e := crack.CheckPlan(j, t, visits("0/0"))
			return n == 0, e
		},
		"Block": func(j []api.Job, t []api.Team) (bool, api.Errno) {
			block, e := crack.Block(j, t)
			return len(block) == 0, e
		},
		"Proves": func(j []api.Job, t []api.Team) (bool, api.Errno) {
			proves, e := crack.Proves(j, t, ints("0 1 2"))
			return !proves, e
		},
	}
}

// refusesTasks checks that a function about jobs and teams refuses all that are
// not valid.
func refusesTasks(t *testing.T, name string) {
	t.Helper()
	ask, fine, able := planners()[name], jobs("0<1"), teams("0: 1 1")
	try := func(j []api.Job, crew []api.Team) {
		t.Helper()
		if zero, e := ask(j, crew); e != api.ErrArg || !zero {
			t.Errorf("%s: error %d, all zero: %v: %s", name, e, zero, taskText(j, crew))
		}
	}
	for _, wrong := range wrongJobs() {
		try(wrong, able)
		try(wrong, nil)
	}
	for _, wrong := range wrongTeams() {
		try(fine, wrong)
		try(nil, wrong)
	}
	try(wrongJobs()[0], wrongTeams()[0])
}
