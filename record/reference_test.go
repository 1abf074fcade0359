package record_test

import (
	"slices"
	"strings"

	"voussoir/api"
)

// reference is a record by the words of the chapter: nothing is kept but what was
// given, and each question goes through all of it.
type reference struct {
	schema   []api.Attribute
	facts    []api.Fact
	versions []given
}

// given is a version as it was given: its parents, and the numbers of the facts that
// it adds and withdraws.
type given struct{ parents, added, withdrawn []int }

// commit makes a version.
func (r *reference) commit(parents []int, add []api.Fact, withdraw []int) {
	g := given{parents: slices.Clone(parents), withdrawn: slices.Clone(withdraw)}
	for _, f := range add {
		f.Values = slices.Clone(f.Values)
		r.facts = append(r.facts, f)
		g.added = append(g.added, len(r.facts))
	}
	r.versions = append(r.versions, g)
}

// ancestors returns the ancestors of a version, itself included.
func (r *reference) ancestors(version int) map[int]bool {
	all := map[int]bool{version: true}
	for _, p := range r.versions[version].parents {
		for a := range r.ancestors(p) {
			all[a] = true
		}
	}
	return all
}

// held returns the numbers of the facts that hold in a version.
func (r *reference) held(version int) []int {
	all := r.ancestors(version)
	var list []int
	for n := 1; n <= len(r.facts); n++ {
		added, withdrawn := false, false
		for a := range all {
			added = added || has(r.versions[a].added, n)
			withdrawn = withdrawn || has(r.versions[a].withdrawn, n)
		}
		if added && !withdrawn {
			list = append(list, n)
		}
	}
	return list
}

// subjects returns the subjects of a version.
func (r *reference) subjects(version int) []string {
	all := map[string]bool{}
	for _, n := range r.held(version) {
		s := r.facts[n-1].Subject
		all[s] = true
		if at := strings.IndexByte(s, '/'); at >= 0 {
			all[s[:at]] = true
		}
	}
	var list []string
	for s := range all {
		list = append(list, s)
	}
	slices.Sort(list)
	return list
}

// attribute returns the attribute with a name.
func (r *reference) attribute(name string) api.Attribute {
	for _, a := range r.schema {
		if a.Name == name {
			return a
		}
	}
	panic("no attribute " + name)
}

// allowed reports whether a statement allows a value: of a choice the place of one,
// of a count an integer.
func allowed(a api.Attribute, value int, values []string, low, high int) bool {
	if len(a.Values) > 0 {
		return slices.Contains(values, a.Values[value])
	}
	return low <= value && value <= high
}

// all returns all values of an attribute.
func all(a api.Attribute) []int {
	var list []int
	if len(a.Values) > 0 {
		for i := range a.Values {
			list = append(list, i)
		}
		return list
	}
	for n := a.Low; n <= a.High; n++ {
		list = append(list, n)
	}
	return list
}

// possible returns the values that are possible, the facts about them, and whether
// there is doubt.
func (r *reference) possible(version int, subject string, a api.Attribute) (values, about []int, doubt bool) {
	for _, n := range r.held(version) {
		if f := r.facts[n-1]; f.Subject == subject && f.Attribute == a.Name {
			about = append(about, n)
		}
	}
	for _, value := range all(a) {
		ok := true
		for _, n := range about {
			f := r.facts[n-1]
			ok = ok && allowed(a, value, f.Values, f.Low, f.High)
		}
		if ok {
			values = append(values, value)
		}
	}
	if len(values) == 0 {
		return all(a), about, true
	}
	return values, about, false
}

// known returns what is known of an attribute.
func (r *reference) known(version int, subject string, a api.Attribute) api.Knowledge {
	values, about, doubt := r.possible(version, subject, a)
	k := api.Knowledge{Facts: about, Doubt: doubt}
	if len(a.Values) == 0 {
		k.Low, k.High = values[0], values[len(values)-1]
		return k
	}
	for _, value := range values {
		k.Values = append(k.Values, a.Values[value])
	}
	return k
}

// topic is an attribute of a subject.
type topic struct{ subject, attribute string }

// world is a value of each topic.
type world map[topic]int

// isTrue reports whether an expression is true of a subject in a world.
func (r *reference) isTrue(x api.Expr, subject string, w world) bool {
	count := 0
	for _, kid := range x.Kids {
		if r.isTrue(kid, subject, w) {
			count++
		}
	}
	switch x.Op {
	case api.ExprNot:
		return count == 0
	case api.ExprAnd:
		return count == len(x.Kids)
	case api.ExprOr:
		return count > 0
	}
	value, ok := w[topic{subject, x.Attribute}]
	if !ok {
		panic("a world without " + subject + " " + x.Attribute)
	}
	return allowed(r.attribute(x.Attribute), value, x.Values, x.Low, x.High)
}

// isLike reports whether a subject with parts is like a pattern in a world.
func (r *reference) isLike(subject string, parts []string, p api.Pattern, w world) bool {
	if !r.isTrue(p.Own, subject, w) {
		return false
	}
	for _, x := range p.Parts {
		isTrue := func(part string) bool { return r.isTrue(x, part, w) }
		if !slices.ContainsFunc(parts, isTrue) {
			return false
		}
	}
	return true
}

// asked adds the names of the attributes that an expression asks for.
func asked(x api.Expr, names map[string]bool) {
	if x.Op == api.ExprIn {
		names[x.Attribute] = true
	}
	for _, kid := range x.Kids {
		asked(kid, names)
	}
}

// partsOf returns the parts of a subject among some.
func partsOf(subject string, subjects []string) []string {
	var list []string
	for _, s := range subjects {
		if strings.HasPrefix(s, subject+"/") {
			list = append(list, s)
		}
	}
	return list
}

// topics returns what a pattern asks about a subject and its parts, in an order.
func (r *reference) topics(subject string, parts []string, p api.Pattern) []topic {
	own, theirs := map[string]bool{}, map[string]bool{}
	asked(p.Own, own)
	for _, x := range p.Parts {
		asked(x, theirs)
	}
	var list []topic
	for _, a := range r.schema {
		if own[a.Name] {
			list = append(list, topic{subject, a.Name})
		}
		for _, part := range parts {
			if theirs[a.Name] {
				list = append(list, topic{part, a.Name})
			}
		}
	}
	return list
}

// like returns the likeness of a subject by all worlds; false if there are more
// worlds than the most.
func (r *reference) like(version int, subject string, p api.Pattern, most int) (api.Likeness, bool) {
	parts := partsOf(subject, r.subjects(version))
	list := r.topics(subject, parts, p)
	values, count := [][]int{}, 1
	for _, t := range list {
		possible, _, _ := r.possible(version, t.subject, r.attribute(t.attribute))
		values = append(values, possible)
		if count *= len(possible); count > most {
			return 0, false
		}
	}
	yes, no := 0, 0
	for number := range count {
		w := world{}
		for i, t := range list {
			w[t] = values[i][number%len(values[i])]
			number /= len(values[i])
		}
		if r.isLike(subject, parts, p, w) {
			yes++
		} else {
			no++
		}
	}
	switch {
	case no == 0:
		return api.Surely, true
	case yes == 0:
		return api.Not, true
	}
	return api.Possibly, true
}

// bare returns the subjects among some that are not parts.
func bare(subjects []string) []string {
	isPart := func(s string) bool { return strings.Contains(s, "/") }
	return slices.DeleteFunc(slices.Clone(subjects), isPart)
}

// query returns the matches of a pattern; false if there are too many worlds.
func (r *reference) query(version int, p api.Pattern, most int) ([]api.Match, bool) {
	var list []api.Match
	for _, s := range bare(r.subjects(version)) {
		l, ok := r.like(version, s, p, most)
		if !ok {
			return nil, false
		}
		if l != api.Not {
			list = append(list, api.Match{Subject: s, Like: l})
		}
	}
	return list, true
}

// compare returns the shifts between two versions; false if there are too many worlds.
func (r *reference) compare(before, after int, p api.Pattern, most int) ([]api.Shift, bool) {
	names := append(bare(r.subjects(before)), bare(r.subjects(after))...)
	slices.Sort(names)
	var list []api.Shift
	for _, s := range slices.Compact(names) {
		was, ok1 := r.like(before, s, p, most)
		is, ok2 := r.like(after, s, p, most)
		if !ok1 || !ok2 {
			return nil, false
		}
		if was != is {
			list = append(list, api.Shift{Subject: s, Was: was, Is: is})
		}
	}
	return list, true
}
