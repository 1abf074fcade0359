package crack

import (
	"slices"
	"strings"

	"voussoir/api"
	"voussoir/exact"
)

// maxName is the greatest number of bytes of a name.
const maxName = 20

// isValid reports whether the ends of a span are in order and not negative.
func isValid(s exact.Span) bool { return !isNegative(s.Low) && s.Low.Cmp(s.High) <= 0 }

// areJobs reports whether a list of jobs is valid.
func areJobs(jobs []api.Job) bool {
	isWrong := func(j api.Job) bool { return !isFrom(0, j.Access, 7) || !isFrom(0, j.Deadline, api.MaxAhead) }
	return len(jobs) <= api.MaxJobs && !slices.ContainsFunc(jobs, isWrong)
}

// areTeams reports whether a list of teams is valid.
func areTeams(teams []api.Team) bool {
	calendar := crew(teams).calendar()
	isWrong := func(n int) bool { return !isFrom(0, n, api.MaxSlots) }
	differs := func(t api.Team) bool { return len(t.Slots) != calendar || slices.ContainsFunc(t.Slots, isWrong) }
	return len(teams) <= api.MaxTeams && calendar <= api.MaxCalendar && !slices.ContainsFunc(teams, differs)
}

// isName reports whether a text is a name.
func isName(s string) bool {
	isLetter := func(r rune) bool { return 'a' <= r && r <= 'z' }
	isOther := func(r rune) bool { return !isLetter(r) && !('0' <= r && r <= '9') && r != '_' }
	return isFrom(1, len(s), maxName) && isLetter(rune(s[0])) && !strings.ContainsFunc(s, isOther)
}

// isNegative reports whether a number is below 0.
func isNegative(x exact.Q) bool { return x.Sign() < 0 }

// isFrom reports whether an integer is from low to high.
func isFrom(low, x, high int) bool { return low <= x && x <= high }
