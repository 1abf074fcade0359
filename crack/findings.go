package crack

import (
	"cmp"
	"slices"

	"voussoir/api"
	"voussoir/exact"
)

// Agreement is what findings leave of a size.
type Agreement struct {
	Size  exact.Span
	Used  []int
	Doubt bool
}

// Reconcile returns what findings leave of a size.
//
// The greatest size that a greatest set of findings has in common is an upper
// end, and whatever finding has this size is in the set, or else the set could
// be greater. So no two of these sets have the same greatest size.
func Reconcile(expected exact.Span, findings []exact.Span) (Agreement, api.Errno) {
	isWrong := func(s exact.Span) bool { return !isValid(s) }
	switch {
	case isWrong(expected):
		return Agreement{}, api.ErrArg
	case len(findings) > api.MaxFindings:
		return Agreement{}, api.ErrLong
	case slices.ContainsFunc(findings, isWrong):
		return Agreement{}, api.ErrArg
	}
	best := agreed(expected.High, expected, findings)
	for _, f := range findings {
		if !expected.Has(f.High) {
			continue
		}
		if other := agreed(f.High, expected, findings); other.compare(best) > 0 {
			best = other
		}
	}
	return best, api.OK
}

// agreed returns the agreement of all findings that have a size, which the
// expected span has too.
func agreed(size exact.Q, expected exact.Span, findings []exact.Span) Agreement {
	a := Agreement{Size: expected}
	for i, f := range findings {
		if f.Has(size) {
			a.Size, _ = a.Size.Meet(f)
			a.Used = append(a.Used, i)
		}
	}
	a.Doubt = len(a.Used) < len(findings)
	return a
}

// compare returns a positive number if an agreement is better than another one.
func (a Agreement) compare(b Agreement) int {
	return cmp.Or(cmp.Compare(len(a.Used), len(b.Used)), a.Size.High.Cmp(b.Size.High))
}
