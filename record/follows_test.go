package record_test

import (
	"math/rand"
	"slices"
	"testing"

	"voussoir/api"
)

// someTruth returns a world of all attributes of the subjects that facts may be about.
func someTruth(r *rand.Rand, schema []api.Attribute) world {
	w := world{}
	for _, subject := range []string{"tay", "tay/a", "tay/b_1", "tay_2", "esk/a", "esk"} {
		for _, a := range schema {
			values := all(a)
			w[topic{subject, a.Name}] = values[r.Intn(len(values))]
		}
	}
	return w
}

// isTrueFact reports whether a fact is true in a world.
func (r *reference) isTrueFact(f api.Fact, w world) bool {
	return allowed(r.attribute(f.Attribute), w[topic{f.Subject, f.Attribute}], f.Values, f.Low, f.High)
}

// isPossible reports whether each fact that holds in a version is true in a world, or
// those about its subject and attribute contradict each other.
func (r *reference) isPossible(version int, w world) bool {
	for _, n := range r.held(version) {
		f := r.facts[n-1]
		_, _, doubt := r.possible(version, f.Subject, r.attribute(f.Attribute))
		if !doubt && !r.isTrueFact(f, w) {
			return false
		}
	}
	return true
}

// TestP11_8 checks that no subject is missed that really is like a pattern.
func TestP11_8(t *testing.T) {
	r := rand.New(rand.NewSource(8))
	seen := counts{}
	for range 4000 {
		schema := someSchema(r)
		got, want := someRecord(t, r, schema, 1+r.Intn(3))
		v := r.Intn(len(want.versions))
		w := someTruth(r, schema)
		if !want.isPossible(v, w) {
			continue
		}
		p := somePattern(r, schema)
		matches, e := got.Query(v, p)
		if e != api.OK {
			t.Fatal("Query", e)
		}
		for _, subject := range bare(want.subjects(v)) {
			really := want.isLike(subject, partsOf(subject, want.subjects(v)), p, w)
			isIt := func(m api.Match) bool { return m.Subject == subject }
			at := slices.IndexFunc(matches, isIt)
			if really && at < 0 {
				t.Errorf("%s is like %s, and missed in %s", subject, patternText(p), matchText(matches))
			}
			if !really && at >= 0 && matches[at].Like == api.Surely {
				t.Errorf("%s is not like %s, and in %s", subject, patternText(p), matchText(matches))
			}
			if really {
				seen["really"]++
			} else if at >= 0 {
				seen["possibly, but not really"]++
			}
		}
	}
	seen.check(t, 100, "really", "possibly, but not really")
}

// TestP11_9Parents checks that the order of parents does not matter.
func TestP11_9Parents(t *testing.T) {
	r := rand.New(rand.NewSource(9))
	seen := counts{}
	for range 100 {
		schema := someSchema(r)
		got, want := someRecord(t, r, schema, 1+r.Intn(8))
		parents := someParents(r, len(want.versions))
		first, e := got.Commit(parents, nil, nil)
		if e != api.OK {
			t.Fatal("Commit", parents, e)
		}
		list, _ := got.Facts(first)
		for range 3 {
			r.Shuffle(len(parents), func(i, j int) { parents[i], parents[j] = parents[j], parents[i] })
			n, e := got.Commit(parents, nil, nil)
			if e != api.OK {
				t.Fatal("Commit", parents, e)
			}
			checkFacts(t, got, n, intText(list))
			p := somePattern(r, schema)
			checkCompare(t, got, first, n, p, "")
		}
		if len(parents) > 2 && len(list) > 0 {
			seen["several parents"]++
		}
	}
	seen.check(t, 20, "several parents")
}

// TestP11_9Ancestor checks versions whose parents are a version and an ancestor of it.
func TestP11_9Ancestor(t *testing.T) {
	r := rand.New(rand.NewSource(10))
	seen := counts{}
	for range 100 {
		got, want := someRecord(t, r, someSchema(r), 1+r.Intn(8))
		for later := range want.versions {
			for earlier := range want.ancestors(later) {
				if earlier == later {
					continue
				}
				if n, e := got.Commit([]int{earlier, later}, nil, nil); e != api.OK {
					t.Fatal("Commit", n, e)
				} else {
					checkFacts(t, got, n, intText(want.held(later)))
				}
				if slices.ContainsFunc(want.held(earlier), func(n int) bool { return !has(want.held(later), n) }) {
					seen["withdrawn since"]++
				}
			}
		}
	}
	seen.check(t, 100, "withdrawn since")
}

// TestP11_10 checks that what is surely or not like a pattern stays so when more is known.
func TestP11_10(t *testing.T) {
	r := rand.New(rand.NewSource(11))
	seen := counts{}
	for range 3000 {
		schema := someSchema(r)
		got, want := someRecord(t, r, schema, 1+r.Intn(3))
		v := len(want.versions) - 1
		subjects := want.subjects(v)
		var add []api.Fact
		for range 6 {
			f := someFact(r, schema)
			if slices.Contains(subjects, f.Subject) {
				add = append(add, f)
			}
		}
		n, e := got.Commit([]int{v}, add, nil)
		if e != api.OK {
			t.Fatal("Commit", e)
		}
		want.commit([]int{v}, add, nil)
		isDoubtful := func(f api.Fact) bool { return want.known(n, f.Subject, want.attribute(f.Attribute)).Doubt }
		if len(add) == 0 || slices.ContainsFunc(add, isDoubtful) {
			continue
		}
		p := somePattern(r, schema)
		for _, s := range bare(subjects) {
			before, _ := got.Like(v, s, p)
			after, _ := got.Like(n, s, p)
			if before != api.Possibly && after != before {
				t.Errorf("%s was %s like %s, and is %s with %s", s, likeText(before), patternText(p), likeText(after), factsText(add))
			}
			if before != after {
				seen["changed"]++
			}
			seen[likeText(before)]++
		}
	}
	seen.check(t, 100, "surely", "not", "possibly", "changed")
}
