package record_test

import (
	"math/rand"
	"slices"
	"testing"

	"voussoir/api"
	"voussoir/record"
)

// someSchema returns a schema of some attributes with few values each.
func someSchema(r *rand.Rand) []api.Attribute {
	var list []api.Attribute
	for _, name := range []string{"m", "k", "b_2"}[:1+r.Intn(3)] {
		a := api.Attribute{Name: name}
		if r.Intn(2) == 0 {
			a.Values = []string{"steel", "iron", "a", "wood"}[:1+r.Intn(4)]
		} else {
			a.Low = r.Intn(9) - 5
			a.High = a.Low + r.Intn(5)
		}
		list = append(list, a)
	}
	return list
}

// someStatement returns an attribute of a schema, and some of its values.
func someStatement(r *rand.Rand, schema []api.Attribute) (attribute string, values []string, low, high int) {
	a := schema[r.Intn(len(schema))]
	if len(a.Values) == 0 {
		low = a.Low + r.Intn(a.High-a.Low+1)
		return a.Name, nil, low, low + r.Intn(a.High-low+1)
	}
	sure := r.Intn(len(a.Values))
	for i, v := range a.Values {
		if i == sure || r.Intn(2) == 0 {
			values = append(values, v)
		}
	}
	return a.Name, values, 0, 0
}

// someFact returns a fact about one of few subjects.
func someFact(r *rand.Rand, schema []api.Attribute) api.Fact {
	f := api.Fact{Subject: []string{"tay", "tay/a", "tay/b_1", "tay_2", "esk/a", "esk"}[r.Intn(6)]}
	f.Attribute, f.Values, f.Low, f.High = someStatement(r, schema)
	return f
}

// someExpr returns an expression of a schema that is not deeper than the most.
func someExpr(r *rand.Rand, schema []api.Attribute, most int) api.Expr {
	x := api.Expr{Op: api.ExprIn}
	if most > 1 && r.Intn(3) > 0 {
		x.Op = []api.ExprOp{api.ExprNot, api.ExprAnd, api.ExprOr}[r.Intn(3)]
	}
	switch x.Op {
	case api.ExprIn:
		x.Attribute, x.Values, x.Low, x.High = someStatement(r, schema)
	case api.ExprNot:
		x.Kids = []api.Expr{someExpr(r, schema, most-1)}
	default:
		for range 1 + r.Intn(3) {
			x.Kids = append(x.Kids, someExpr(r, schema, most-1))
		}
	}
	return x
}

// somePattern returns a pattern of a schema.
func somePattern(r *rand.Rand, schema []api.Attribute) api.Pattern {
	p := api.Pattern{Own: someExpr(r, schema, 3)}
	for range r.Intn(3) {
		p.Parts = append(p.Parts, someExpr(r, schema, 2))
	}
	return p
}

// someParents returns some numbers of versions, each once.
func someParents(r *rand.Rand, versions int) []int {
	return r.Perm(versions)[:1+r.Intn(min(versions, 4))]
}

// someRecord returns a record, made from some versions, and the same as a reference.
func someRecord(t *testing.T, r *rand.Rand, schema []api.Attribute, versions int) (*record.Record, *reference) {
	t.Helper()
	got, want := made(schema), &reference{schema: schema, versions: []given{{}}}
	for range versions {
		parents := someParents(r, len(want.versions))
		var add []api.Fact
		for range r.Intn(5) {
			add = append(add, someFact(r, schema))
		}
		var withdraw []int
		for _, p := range parents {
			for _, n := range want.held(p) {
				if r.Intn(6) == 0 && !has(withdraw, n) {
					withdraw = append(withdraw, n)
				}
			}
		}
		r.Shuffle(len(withdraw), func(i, j int) { withdraw[i], withdraw[j] = withdraw[j], withdraw[i] })
		n, e := got.Commit(parents, add, withdraw)
		if n != len(want.versions) || e != api.OK {
			t.Fatalf("Commit from %v of %s without %v: version %d, error %d", parents, factsText(add), withdraw, n, e)
		}
		want.commit(parents, add, withdraw)
	}
	return got, want
}

// counts counts kinds of cases.
type counts map[string]int

// check checks that there were cases enough of each kind.
func (c counts) check(t *testing.T, least int, kinds ...string) {
	t.Helper()
	for _, k := range kinds {
		if c[k] < least {
			t.Errorf("only %d cases of %s", c[k], k)
		}
	}
}

// TestP11_3Some compares which facts hold, and their subjects, with the words of the chapter.
func TestP11_3Some(t *testing.T) {
	r := rand.New(rand.NewSource(1))
	seen := counts{}
	for range 150 {
		got, want := someRecord(t, r, someSchema(r), 1+r.Intn(9))
		if got.Versions() != len(want.versions) {
			t.Error(got.Versions(), "versions, not", len(want.versions))
		}
		for n, f := range want.facts {
			g, e := got.Fact(n + 1)
			if factText(g) != factText(f) || e != api.OK {
				t.Errorf("fact %d: %s (error %d), not %s", n+1, factText(g), e, factText(f))
			}
		}
		for v, g := range want.versions {
			checkFacts(t, got, v, intText(want.held(v)))
			subjects := want.subjects(v)
			checkSubjects(t, got, v, textOf(subjects))
			if len(g.parents) > 1 {
				seen["merge"]++
			}
			if len(subjects) > 2 {
				seen["several subjects"]++
			}
			if isWithdrawnElsewhere(want, v) {
				seen["withdrawn in another branch"]++
			}
		}
	}
	seen.check(t, 100, "merge", "several subjects", "withdrawn in another branch")
}

// textOf returns texts with blanks between them.
func textOf(list []string) string {
	s := ""
	for i, word := range list {
		if i > 0 {
			s += " "
		}
		s += word
	}
	return s
}

// isWithdrawnElsewhere reports whether a fact holds in one parent of a version, does
// not in another one that has it too, and was not withdrawn by the version itself.
func isWithdrawnElsewhere(r *reference, version int) bool {
	g := r.versions[version]
	for _, p := range g.parents {
		for _, n := range r.held(p) {
			if !has(r.held(version), n) && !has(g.withdrawn, n) {
				return true
			}
		}
	}
	return false
}

// TestP11_4Some compares what is known with the words of the chapter.
func TestP11_4Some(t *testing.T) {
	r := rand.New(rand.NewSource(2))
	seen := counts{}
	for range 400 {
		schema := someSchema(r)
		got, want := someRecord(t, r, schema, 1+r.Intn(5))
		for v := range want.versions {
			for _, subject := range append(want.subjects(v), "other", "tay/other") {
				for _, a := range schema {
					k := want.known(v, subject, a)
					checkKnown(t, got, v, subject, a.Name, knowledgeText(k))
					switch {
					case k.Doubt:
						seen["doubt"]++
					case len(k.Facts) > 1:
						seen["several facts"]++
					case len(k.Facts) == 0:
						seen["no facts"]++
					}
				}
			}
		}
	}
	seen.check(t, 100, "doubt", "several facts", "no facts")
}

// TestP11_5Some compares likenesses, matches and shifts with all worlds.
func TestP11_5Some(t *testing.T) {
	r := rand.New(rand.NewSource(3))
	seen := counts{}
	for range 1200 {
		schema := someSchema(r)
		got, want := someRecord(t, r, schema, 1+r.Intn(4))
		for range 6 {
			p, v := somePattern(r, schema), r.Intn(len(want.versions))
			for _, subject := range append(bare(want.subjects(v)), "other") {
				like, ok := want.like(v, subject, p, 3000)
				if !ok {
					continue
				}
				checkLike(t, got, v, subject, p, likeText(like))
				seen[likeText(like)]++
				if len(partsOf(subject, want.subjects(v))) > 1 && len(p.Parts) > 1 {
					seen[likeText(like)+" with parts"]++
				}
			}
			if list, ok := want.query(v, p, 3000); ok {
				checkQuery(t, got, v, p, matchText(list))
			}
			before := r.Intn(len(want.versions))
			if list, ok := want.compare(before, v, p, 3000); ok {
				checkCompare(t, got, before, v, p, shiftText(list))
				for _, s := range list {
					seen[likeText(s.Was)+" before"]++
				}
			}
		}
	}
	seen.check(t, 50, "surely", "possibly", "not", "surely before", "possibly before", "not before")
	seen.check(t, 20, "surely with parts", "possibly with parts", "not with parts")
}

// someWide returns an expression of counts with wide bounds that is not deeper than the most.
func someWide(r *rand.Rand, names []string, most int) api.Expr {
	x := api.Expr{Op: api.ExprIn}
	if most > 1 && r.Intn(4) > 0 {
		x.Op = []api.ExprOp{api.ExprNot, api.ExprAnd, api.ExprOr}[r.Intn(3)]
	}
	if x.Op == api.ExprIn {
		x.Attribute = names[r.Intn(len(names))]
		x.Low, x.High = someRange(r)
		return x
	}
	kids := 1 + r.Intn(3)
	if x.Op == api.ExprNot {
		kids = 1
	}
	for range kids {
		x.Kids = append(x.Kids, someWide(r, names, most-1))
	}
	return x
}

// someRange returns a low and a high integer, often with the same ends as others.
func someRange(r *rand.Rand) (low, high int) {
	ends := []int{-api.MaxInteger, -api.MaxInteger + 1, -4, -3, 0, 1, 2, 777777, api.MaxInteger - 1, api.MaxInteger, r.Intn(2000001) - 1000000}
	low, high = ends[r.Intn(len(ends))], ends[r.Intn(len(ends))]
	return min(low, high), max(low, high)
}

// ends adds the integers where an expression may become true or false.
func ends(x api.Expr, name string, list []int) []int {
	if x.Op == api.ExprIn && x.Attribute == name {
		list = append(list, x.Low-1, x.Low, x.High, x.High+1)
	}
	for _, kid := range x.Kids {
		list = ends(kid, name, list)
	}
	return list
}

// size returns how many expressions an expression is, Kids included.
func size(x api.Expr) int {
	n := 1
	for _, kid := range x.Kids {
		n += size(kid)
	}
	return n
}

// TestP11_5Wide compares likenesses where counts have millions of values: only at
// the ends of what is asked and known may something change.
func TestP11_5Wide(t *testing.T) {
	r := rand.New(rand.NewSource(4))
	seen := counts{}
	names := []string{"a", "b"}
	for range 3000 {
		rec := made(schema("a=-1000000..1000000", "b=-1000000..1000000"))
		var known [2][2]int
		var add []api.Fact
		for i, name := range names {
			known[i][0], known[i][1] = someRange(r)
			add = append(add, api.Fact{Subject: "tay", Attribute: name, Low: known[i][0], High: known[i][1]})
		}
		rec.Commit([]int{0}, add, nil)
		x := someWide(r, names, 4)
		if size(x) > api.MaxExpr-4 {
			continue
		}
		ref := &reference{schema: schema("a=-1000000..1000000", "b=-1000000..1000000")}
		var values [2][]int
		for i, name := range names {
			for _, n := range append(ends(x, name, nil), known[i][0], known[i][1]) {
				if known[i][0] <= n && n <= known[i][1] {
					values[i] = append(values[i], n)
				}
			}
		}
		yes, no := 0, 0
		for _, a := range values[0] {
			for _, b := range values[1] {
				if ref.isTrue(x, "tay", world{{"tay", "a"}: a, {"tay", "b"}: b}) {
					yes++
				} else {
					no++
				}
			}
		}
		want := "possibly"
		if no == 0 {
			want = "surely"
		} else if yes == 0 {
			want = "not"
		}
		seen[want]++
		p := api.Pattern{Own: x}
		checkLike(t, rec, 1, "tay", p, want)
		// The same asked about a part.
		for i := range add {
			add[i].Subject = "esk/a"
		}
		rec.Commit([]int{0}, add, nil)
		anyway := expr("(or a=0..0 (not a=0..0))")
		checkLike(t, rec, 2, "esk", api.Pattern{Own: anyway, Parts: []api.Expr{x}}, want)
	}
	seen.check(t, 300, "surely", "possibly", "not")
}

// TestP11_6Order checks that matches and shifts are in ascending order.
func TestP11_6Order(t *testing.T) {
	r := rand.New(rand.NewSource(5))
	for range 20 {
		rec := made(bridges())
		var names []string
		for range 30 {
			name := make([]byte, 1+r.Intn(4))
			for i := range name {
				name[i] = "ab0_"[r.Intn(4)]
			}
			name[0] = 'a'
			names = append(names, string(name))
		}
		var add []api.Fact
		for _, name := range names {
			add = append(add, fact(name+" material=iron"))
		}
		commit(t, rec, 1, "0", "")
		if n, e := rec.Commit([]int{1}, add, nil); n != 2 || e != api.OK {
			t.Fatal("Commit", n, e)
		}
		slices.Sort(names)
		var matches []api.Match
		var shifts []api.Shift
		for _, name := range slices.Compact(names) {
			matches = append(matches, api.Match{Subject: name, Like: api.Surely})
			shifts = append(shifts, api.Shift{Subject: name, Was: api.Possibly, Is: api.Surely})
		}
		checkQuery(t, rec, 2, pattern("material=iron"), matchText(matches))
		checkCompare(t, rec, 1, 2, pattern("material=iron"), shiftText(shifts))
	}
}
