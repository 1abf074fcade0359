package record

import "voussoir/api"

// search is a pattern that is ready to be looked for: what it asks about a subject and about each part, and the set of all its tests.
type search struct {
	own, parts question
	all        set
}

// set is a set of tests of a pattern, with a bit for each: of those about parts in their order, and then of that about the subject.
type set uint

// searchFor makes a valid pattern ready to be looked for.
func (r *Record) searchFor(p api.Pattern) search {
	own := []api.Expr{p.Own}
	last := set(1) << len(p.Parts)
	return search{
		own:   r.questionOf(own, last),
		parts: r.questionOf(p.Parts, 1),
		all:   2*last - 1,
	}
}

// likeness returns the likeness of a subject. The subject and its parts have their values independently of each other, so that the worlds of all of them are all choices of a world of each; and a test about parts is true if it is true of one of them.
func (l look) likeness(subject string, s search) api.Likeness {
	worlds := s.own.worlds(l.known(subject))
	for _, part := range l.parts(subject) {
		worlds = joined(worlds, s.parts.worlds(l.known(part)))
	}
	switch {
	case !worlds[s.all]:
		return api.Not
	case len(worlds) > 1:
		return api.Possibly
	}
	return api.Surely
}

// joined returns the sets of tests that are true in some world of two subjects together.
func joined(a, b map[set]bool) map[set]bool {
	out := map[set]bool{}
	for of := range a {
		for with := range b {
			out[of|with] = true
		}
	}
	return out
}
