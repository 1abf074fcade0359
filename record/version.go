package record

import (
	"slices"

	"voussoir/api"
)

// version is the numbers of the facts that a version and its other ancestors added, and of those that they withdrew. Both are kept, since what one branch withdrew does not hold after a merge either.
type version struct{ added, withdrawn numbers }

// numbers is a set of numbers of facts, with a bit for each.
type numbers [api.MaxRecorded/wordBits + 1]uint64

// wordBits is how many bits a word of a set has.
const wordBits = 64

// put adds a number to a set.
func (s *numbers) put(n int) { s[n/wordBits] |= 1 << (n % wordBits) }

// has reports whether a number is in a set.
func (s numbers) has(n int) bool { return s[n/wordBits]>>(n%wordBits)&1 == 1 }

// putAll adds all numbers of another set.
func (s *numbers) putAll(other numbers) {
	for i, word := range other {
		s[i] |= word
	}
}

// holds reports whether the fact with a number holds in a version.
func (v version) holds(n int) bool { return v.added.has(n) && !v.withdrawn.has(n) }

// merged returns the version with these parents that adds and withdraws nothing itself.
func (r *Record) merged(parents []int) version {
	var v version
	for _, p := range parents {
		v.added.putAll(r.versions[p].added)
		v.withdrawn.putAll(r.versions[p].withdrawn)
	}
	return v
}

// held returns the numbers of the facts that hold in a version, in ascending order.
func (r *Record) held(version int) []int {
	var out []int
	for bit := range len(r.facts) + 1 {
		if r.versions[version].holds(bit) {
			out = append(out, bit)
		}
	}
	return out
}

// checkVersions returns ErrVersion if one of some numbers is not that of a version.
func (r *Record) checkVersions(list ...int) api.Errno {
	if r == nil {
		return api.ErrNil
	}
	isWrong := func(version int) bool { return !isFrom(0, version, len(r.versions)-1) }
	if slices.ContainsFunc(list, isWrong) {
		return api.ErrVersion
	}
	return api.OK
}

// checkCommit returns the first error of a version that is to be made.
func (r *Record) checkCommit(parents []int, add []api.Fact, withdraw []int) api.Errno {
	if r == nil {
		return api.ErrNil
	}
	if !isFrom(1, len(parents), api.MaxParents) || hasTwice(parents) {
		return api.ErrArg
	}
	if e := r.checkVersions(parents...); e != api.OK {
		return e
	}
	isWrong := func(f api.Fact) bool { return !r.isFact(f) }
	if slices.ContainsFunc(add, isWrong) {
		return api.ErrFact
	}
	for i, n := range withdraw {
		if !r.holdsInOne(parents, n) || slices.Contains(withdraw[:i], n) {
			return api.ErrNone
		}
	}
	if len(r.versions) >= api.MaxVersions || len(r.facts)+len(add) > api.MaxRecorded {
		return api.ErrFull
	}
	return api.OK
}

// hasTwice reports whether a number occurs twice.
func hasTwice(list []int) bool {
	for i, n := range list {
		if slices.Contains(list[:i], n) {
			return true
		}
	}
	return false
}

// holdsInOne reports whether there is a fact with a number and it holds in one of some versions at least.
func (r *Record) holdsInOne(list []int, n int) bool {
	holds := func(version int) bool { return r.versions[version].holds(n) }
	return isFrom(1, n, len(r.facts)) && slices.ContainsFunc(list, holds)
}

// copied returns a fact with a list of values of its own.
func copied(f api.Fact) api.Fact {
	f.Values = slices.Clone(f.Values)
	return f
}
