package record

import (
	"cmp"
	"slices"
	"strings"

	"voussoir/api"
)

// look is a record as one version shows it: the numbers of the facts that hold, and their subjects, both in ascending order.
type look struct {
	record   *Record
	held     []int
	subjects []string
}

// look returns the record as a version shows it.
func (r *Record) look(version int) look {
	l := look{record: r, held: r.held(version)}
	for _, n := range l.held {
		subject := r.facts[n-1].Subject
		whole, _, _ := strings.Cut(subject, "/")
		l.subjects = append(l.subjects, whole, subject)
	}
	l.subjects = ascending(l.subjects)
	return l
}

// ascending returns the elements of a list in ascending order, each once.
func ascending[T cmp.Ordered](list []T) []T {
	return slices.Compact(slices.Sorted(slices.Values(list)))
}

// wholes returns the subjects that are not parts.
func (l look) wholes() []string {
	return slices.DeleteFunc(slices.Clone(l.subjects), isPart)
}

// isPart reports whether a subject is a part.
func isPart(subject string) bool { return strings.Contains(subject, "/") }

// parts returns the parts of a subject.
func (l look) parts(subject string) []string {
	isOther := func(s string) bool { return !strings.HasPrefix(s, subject+"/") }
	return slices.DeleteFunc(slices.Clone(l.subjects), isOther)
}

// hasManyParts reports whether a subject has more parts than may be looked at.
func (l look) hasManyParts(subject string) bool { return len(l.parts(subject)) > api.MaxPieces }

// known returns what is known of each attribute of a subject, by its name.
func (l look) known(subject string) map[string]api.Knowledge {
	all := map[string]api.Knowledge{}
	for name, a := range l.record.attributes {
		all[name] = api.Knowledge{Values: slices.Clone(a.Values), Low: a.Low, High: a.High}
	}
	for _, n := range l.held {
		if f := l.record.facts[n-1]; f.Subject == subject {
			all[f.Attribute] = narrowed(all[f.Attribute], f, n)
		}
	}
	out := map[string]api.Knowledge{}
	for name, k := range all {
		out[name] = settled(k, l.record.attributes[name])
	}
	return out
}

// narrowed returns what is known if the fact with a number holds too.
func narrowed(k api.Knowledge, f api.Fact, number int) api.Knowledge {
	isExcluded := func(v string) bool { return !slices.Contains(f.Values, v) }
	return api.Knowledge{
		Values: slices.DeleteFunc(k.Values, isExcluded),
		Low:    max(k.Low, f.Low),
		High:   min(k.High, f.High),
		Facts:  append(k.Facts, number),
	}
}

// settled returns what is known, or doubt if nothing is possible.
func settled(k api.Knowledge, a api.Attribute) api.Knowledge {
	isPossible := len(k.Values) > 0 || len(a.Values) == 0 && k.Low <= k.High
	if isPossible {
		return k
	}
	return api.Knowledge{Values: slices.Clone(a.Values), Low: a.Low, High: a.High, Facts: k.Facts, Doubt: true}
}
