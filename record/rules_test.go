package record_test

import (
	"math/rand"
	"slices"
	"strconv"
	"strings"
	"testing"

	"voussoir/api"
	"voussoir/record"
)

// spread returns an expression of others, as many about each of four counts: seven
// cut each of them into 15 pieces, so that there are 50625 kinds of worlds.
func spread(word string, each int) string {
	var list []string
	for _, name := range []string{"a", "b", "c", "d"} {
		for k := range each {
			list = append(list, name+"="+strconv.Itoa(10*k)+".."+strconv.Itoa(10*k+4))
		}
	}
	return "(" + word + " " + strings.Join(list, " ") + ")"
}

// TestP1Great asks records of the greatest size for patterns of the greatest size.
func TestP1Great(t *testing.T) {
	wide := schema("a=-1000000..1000000", "b=-1000000..1000000", "c=-1000000..1000000", "d=-1000000..1000000")
	always := "a=-1000000..1000000"
	for _, c := range []struct {
		subjects []string
		p        api.Pattern
		like     string
		matches  int
	}{
		{numbered("s", 300), pattern(spread("or", 7)), "possibly", 300},
		{numbered("s", 300), pattern("(not " + spread("and", 7) + ")"), "surely", 300},
		{numbered("s", 300), pattern(spread("and", 7)), "", 0},
		{partsOfEach(25, 12), pattern(always, spread("or", 7)), "possibly", 25},
		{partsOfEach(25, 12), pattern(always, spread("and", 7)), "", 0},
		{partsOfEach(25, 12), pattern(always, spread("or", 2), "(not "+spread("and", 2)+")", "(or b=0..1 (not b=0..1))"), "possibly", 25},
	} {
		r := made(wide)
		var add []api.Fact
		for i, s := range c.subjects {
			add = append(add, api.Fact{Subject: s, Attribute: "b", Low: -i - 1, High: i})
		}
		if n, e := r.Commit([]int{0}, add, nil); n != 1 || e != api.OK {
			t.Fatal("Commit", n, e)
		}
		for r.Versions() < api.MaxVersions {
			last := r.Versions() - 1
			if n, e := r.Commit([]int{last, last - 1}, nil, nil); n != last+1 || e != api.OK {
				t.Fatal("Commit", n, e)
			}
		}
		matches, e := r.Query(199, c.p)
		if len(matches) != c.matches || e != api.OK {
			t.Error("Query", len(matches), e)
		}
		for _, m := range matches {
			if likeText(m.Like) != c.like {
				t.Error(m, "not", c.like)
			}
		}
		checkCompare(t, r, 1, 199, c.p, "")
	}
}

// partsOfEach returns parts of some wholes, with as many parts each.
func partsOfEach(wholes, parts int) []string {
	var list []string
	for _, name := range numbered("s", wholes) {
		list = append(list, numbered(name+"/p", parts)...)
	}
	return list
}

// TestP1Circles asks for expressions that are among their own Kids.
func TestP1Circles(t *testing.T) {
	r := recorded("tay material=iron")
	for _, op := range []api.ExprOp{api.ExprIn, api.ExprNot, api.ExprAnd, api.ExprOr, 0, 9} {
		for _, count := range []int{1, 2, 1000} {
			x := api.Expr{Op: op, Kids: make([]api.Expr, count)}
			for i := range x.Kids {
				x.Kids[i] = x
			}
			for _, p := range []api.Pattern{{Own: x}, {Own: expr("material=iron"), Parts: []api.Expr{x}}, {Own: x, Parts: []api.Expr{x, x}}} {
				if l, e := r.Like(1, "tay", p); l != 0 || e != api.ErrPattern {
					t.Error("Like", op, l, e)
				}
				if list, e := r.Query(1, p); len(list) != 0 || e != api.ErrPattern {
					t.Error("Query", op, list, e)
				}
				if list, e := r.Compare(1, 0, p); len(list) != 0 || e != api.ErrPattern {
					t.Error("Compare", op, list, e)
				}
			}
		}
	}
}

// TestP1Long hands over lists and texts that are much too long.
func TestP1Long(t *testing.T) {
	r := recorded("tay material=iron")
	long := strings.Repeat("a", 1<<16)
	many := make([]string, 1<<16)
	for i := range many {
		many[i] = "iron"
	}
	for _, s := range [][]api.Attribute{make([]api.Attribute, 1<<16), {{Name: long}}, {{Name: "a", Values: many}}} {
		if r, e := record.New(s); r != nil || e != api.ErrSchema {
			t.Error("New", e)
		}
	}
	good := slices.Repeat(facts("tay material=iron"), 1<<16)
	for _, c := range []struct {
		parents  []int
		add      []api.Fact
		withdraw []int
		want     api.Errno
	}{{make([]int, 1<<16), nil, nil, api.ErrArg}, {[]int{0}, good, nil, api.ErrFull}, {[]int{0}, append(good[:5:5], api.Fact{Subject: long}), nil, api.ErrFact},
		{[]int{0}, []api.Fact{{Subject: "tay", Attribute: "material", Values: many}}, nil, api.ErrFact}, {[]int{1}, nil, make([]int, 1<<16), api.ErrNone}, {[]int{1}, nil, slices.Repeat([]int{1}, 1<<16), api.ErrNone}} {
		if n, e := r.Commit(c.parents, c.add, c.withdraw); n != 0 || e != c.want {
			t.Error("Commit", n, e)
		}
	}
	if _, e := r.Known(1, long, long); e != api.ErrArg {
		t.Error("Known", e)
	}
	if _, e := r.Known(1, "tay", long); e != api.ErrNone {
		t.Error("Known", e)
	}
	iron := expr("material=iron")
	for _, p := range []api.Pattern{{Own: iron, Parts: slices.Repeat([]api.Expr{iron}, 1<<16)}, {Own: api.Expr{Op: api.ExprAnd, Kids: slices.Repeat([]api.Expr{iron}, 1<<16)}}, {Own: api.Expr{Op: api.ExprIn, Attribute: "material", Values: many}}} {
		if l, e := r.Like(1, "tay", p); l != 0 || e != api.ErrPattern {
			t.Error("Like", l, e)
		}
	}
}

// TestR3Nil asks a record that is nil.
func TestR3Nil(t *testing.T) {
	var r *record.Record
	p := pattern("material=iron")
	if n := r.Versions(); n != 0 {
		t.Error("Versions", n)
	}
	for _, parents := range [][]int{nil, {0}, {-1}} {
		n, e := r.Commit(parents, nil, nil)
		if n != 0 {
			t.Error("Commit", n)
		}
		checkError(t, "Commit", e, api.ErrNil)
	}
	for _, v := range []int{0, 1, -1} {
		f, e := r.Fact(v)
		if factText(f) != factText(api.Fact{}) {
			t.Error("Fact", f)
		}
		checkError(t, "Fact", e, api.ErrNil)
		list, e := r.Facts(v)
		checkError(t, "Facts", e, api.ErrNil)
		subjects, e := r.Subjects(v)
		checkError(t, "Subjects", e, api.ErrNil)
		k, e := r.Known(v, "Tay", "")
		checkError(t, "Known", e, api.ErrNil)
		l, e := r.Like(v, "tay", p)
		checkError(t, "Like", e, api.ErrNil)
		matches, e := r.Query(v, p)
		checkError(t, "Query", e, api.ErrNil)
		shifts, e := r.Compare(v, v, api.Pattern{})
		checkError(t, "Compare", e, api.ErrNil)
		if len(list)+len(subjects)+len(matches)+len(shifts)+int(l) != 0 || knowledgeText(k) != knowledgeText(api.Knowledge{}) {
			t.Error("a result of a nil record")
		}
	}
}

// TestR3Empty checks that lists that are empty mean the same as none.
func TestR3Empty(t *testing.T) {
	r, e := record.New([]api.Attribute{{Name: "material", Values: []string{"steel", "iron", "wood"}}, {Name: "built", Values: []string{}, Low: 1800, High: 2030}})
	if e != api.OK {
		t.Fatal("New", e)
	}
	if n, e := r.Commit([]int{0}, []api.Fact{{Subject: "tay", Attribute: "built", Values: []string{}, Low: 1900, High: 1901}}, []int{}); n != 1 || e != api.OK {
		t.Error("Commit", n, e)
	}
	if n, e := r.Commit([]int{1}, []api.Fact{}, nil); n != 2 || e != api.OK {
		t.Error("Commit", n, e)
	}
	for _, add := range [][]api.Fact{{{Subject: "tay", Attribute: "material", Values: []string{}}}} {
		if n, e := r.Commit([]int{1}, add, nil); n != 0 || e != api.ErrFact {
			t.Error("Commit", n, e)
		}
	}
	if n, e := r.Commit([]int{}, nil, nil); n != 0 || e != api.ErrArg {
		t.Error("Commit", n, e)
	}
	empty := api.Expr{Op: api.ExprNot, Values: []string{}, Kids: []api.Expr{{Op: api.ExprIn, Attribute: "built", Values: []string{}, Low: 1900, High: 1901, Kids: []api.Expr{}}}}
	p := api.Pattern{Own: empty, Parts: []api.Expr{}}
	checkLike(t, r, 1, "tay", p, "not")
	checkLike(t, r, 2, "esk", p, "possibly")
	for _, op := range []api.ExprOp{api.ExprNot, api.ExprAnd, api.ExprOr} {
		if l, e := r.Like(1, "tay", api.Pattern{Own: api.Expr{Op: op, Kids: []api.Expr{}}}); l != 0 || e != api.ErrPattern {
			t.Error("Like", l, e)
		}
	}
	none := made([]api.Attribute{})
	commit(t, none, 1, "0", "")
	if _, e := none.Known(1, "tay", "material"); e != api.ErrNone {
		t.Error("Known without attributes", e)
	}
}

// TestR2NothingChanges checks that a record is as it was after errors.
func TestR2NothingChanges(t *testing.T) {
	r := recorded("tay material=iron", "tay/a material=wood", "esk built=1900..1950")
	commit(t, r, 2, "1", "2", "esk material=steel")
	names := namesOf(bridges())
	p := []api.Pattern{pattern("material=iron"), pattern(anyway, "material=wood")}
	before := told(r, names, p...)
	good := fact("tay material=iron")
	for range 3 {
		r.Commit(nil, []api.Fact{good}, []int{1})
		r.Commit([]int{1, 9}, []api.Fact{good}, []int{1})
		r.Commit([]int{1}, []api.Fact{good, {}}, []int{1})
		r.Commit([]int{1}, []api.Fact{good}, []int{1, 9})
		r.Commit([]int{1}, []api.Fact{good}, []int{1, 1})
		r.Commit([]int{1}, slices.Repeat([]api.Fact{good}, 300), []int{1})
		if after := told(r, names, p...); after != before {
			t.Errorf("%s\nbecame\n%s", before, after)
		}
	}
	commit(t, r, 3, "2", "", "tay material=iron")
	checkFacts(t, r, 3, "1 3 4 5")
	checkFacts(t, r, 2, "1 3 4")
}

// TestR4ArgumentsStay checks that no function changes or keeps its arguments.
func TestR4ArgumentsStay(t *testing.T) {
	s := bridges()
	r := made(s)
	spoil(s[0].Values, "spoilt")
	spoil(s, api.Attribute{Name: "spoilt"})
	parents, add := []int{0}, facts("tay material=steel,iron", "tay/a material=iron,wood", "tay built=1870..1880")
	if n, e := r.Commit(parents, add, nil); n != 1 || e != api.OK {
		t.Fatal("Commit", n, e)
	}
	if factsText(add) != "tay material=steel,iron; tay/a material=iron,wood; tay built=1870..1880" || parents[0] != 0 {
		t.Error("Commit changed", parents, factsText(add))
	}
	spoil(parents, 77)
	spoil(add[0].Values, "spoilt")
	spoil(add, fact("esk material=wood"))
	withdraw := []int{3, 1}
	if n, e := r.Commit([]int{1}, nil, withdraw); n != 2 || e != api.OK || withdraw[0] != 3 || withdraw[1] != 1 {
		t.Error("Commit", n, e, withdraw)
	}
	spoil(withdraw, 2)
	checkFacts(t, r, 1, "1 2 3")
	checkFacts(t, r, 2, "2")
	checkSubjects(t, r, 1, "tay tay/a")
	checkKnown(t, r, 1, "tay", "material", "steel,iron 0..0 by 1")
	checkKnown(t, r, 0, "tay", "material", "steel,iron,wood 0..0 by ")
	p := pattern("(or (and material=steel,iron built=1870..1880) material=wood)", "material=iron", "(not material=iron)")
	before := patternText(p)
	text := told(r, namesOf(bridges()), p)
	for range 3 {
		if again := told(r, namesOf(bridges()), p); again != text {
			t.Errorf("%s\nthen\n%s", text, again)
		}
	}
	if after := patternText(p); after != before {
		t.Errorf("%s\nbecame\n%s", before, after)
	}
}

// spoil overwrites a list, also where there is room behind it.
func spoil[T any](list []T, x T) {
	list = list[:cap(list)]
	for i := range list {
		list[i] = x
	}
}

// roomy returns a list with room behind it, in which there is something.
func roomy[T any](list []T, x T) []T {
	long := append(slices.Clone(list), x, x, x, x, x, x, x, x, x, x)
	return long[:len(list)]
}

// areStill reports whether there is still the same behind a list.
func areStill[T any](list []T, isIt func(x T) bool) bool {
	isOther := func(x T) bool { return !isIt(x) }
	return !slices.ContainsFunc(list[len(list):len(list)+10], isOther)
}

// roomyExpr returns an expression with room behind its lists.
func roomyExpr(x api.Expr) api.Expr {
	x.Values = roomy(x.Values, "spare")
	x.Kids = slices.Clone(x.Kids)
	for i, kid := range x.Kids {
		x.Kids[i] = roomyExpr(kid)
	}
	x.Kids = roomy(x.Kids, api.Expr{Op: 77})
	return x
}

// isStillRoomy reports whether there is still the same behind the lists of an expression.
func isStillRoomy(x api.Expr) bool {
	isChanged := func(kid api.Expr) bool { return !isStillRoomy(kid) }
	return areStill(x.Values, isSpare) && areStill(x.Kids, isSpareExpr) && !slices.ContainsFunc(x.Kids, isChanged)
}

// isSpare reports whether a text is the one that is laid behind lists.
func isSpare(s string) bool { return s == "spare" }

// isSpareExpr reports whether an expression is the one that is laid behind lists.
func isSpareExpr(x api.Expr) bool { return x.Op == 77 }

// TestR4RoomStays checks that what is behind the lists of arguments stays as well.
func TestR4RoomStays(t *testing.T) {
	s := roomy(bridges(), api.Attribute{Name: "spare"})
	for i := range s {
		s[i].Values = roomy(s[i].Values, "spare")
	}
	r := made(s)
	add := roomy(facts("tay material=steel,iron", "tay material=iron", "tay/a built=1870..1880"), api.Fact{Subject: "spare"})
	for i := range add {
		add[i].Values = roomy(add[i].Values, "spare")
	}
	is77 := func(n int) bool { return n == 77 }
	parents, withdraw := roomy([]int{0}, 77), roomy([]int{2, 3}, 77)
	if n, e := r.Commit(parents, add, nil); n != 1 || e != api.OK {
		t.Error("Commit", n, e)
	}
	if n, e := r.Commit([]int{1, 0}, add, withdraw); n != 2 || e != api.OK {
		t.Error("Commit", n, e)
	}
	p := api.Pattern{Own: roomyExpr(expr("(or (and material=steel,iron built=1870..1880) material=wood)")), Parts: roomy([]api.Expr{roomyExpr(expr("(not material=iron)"))}, api.Expr{Op: 77})}
	told(r, namesOf(bridges()), p)
	ok := areStill(s, func(a api.Attribute) bool { return a.Name == "spare" }) && areStill(add, func(f api.Fact) bool { return f.Subject == "spare" }) &&
		areStill(parents, is77) && areStill(withdraw, is77) && areStill(p.Parts, isSpareExpr) && isStillRoomy(p.Own) && isStillRoomy(p.Parts[0])
	for _, a := range s {
		ok = ok && areStill(a.Values, isSpare)
	}
	for _, f := range add {
		ok = ok && areStill(f.Values, isSpare)
	}
	if !ok {
		t.Error("something behind a list was changed")
	}
}

// TestR4ResultsAreNew overwrites results: nothing else changes with them.
func TestR4ResultsAreNew(t *testing.T) {
	r := recorded("tay material=steel,iron", "tay/a material=iron,wood", "esk material=iron", "tay material=iron,wood", "dee material=iron", "dee material=wood")
	names := namesOf(bridges())
	p := []api.Pattern{pattern("material=iron"), pattern(anyway, "material=wood")}
	before := told(r, names, p...)
	for range 2 {
		for n := 1; n < 7; n++ {
			f, _ := r.Fact(n)
			spoil(f.Values, "spoilt")
		}
		for v := range r.Versions() {
			list, _ := r.Facts(v)
			spoil(list, 77)
			subjects, _ := r.Subjects(v)
			spoil(subjects, "spoilt")
			for _, s := range []string{"tay", "tay/a", "esk", "dee", "nobody"} {
				for _, name := range names {
					k, _ := r.Known(v, s, name)
					facts, values := intText(k.Facts), strings.Join(k.Values, ",")
					spoil(k.Values, "spoilt")
					if intText(k.Facts) != facts {
						t.Error("the facts share their memory")
					}
					k, _ = r.Known(v, s, name)
					spoil(k.Facts, 77)
					if strings.Join(k.Values, ",") != values {
						t.Error("the values share their memory")
					}
				}
			}
			for _, x := range p {
				matches, _ := r.Query(v, x)
				spoil(matches, api.Match{Subject: "spoilt"})
				shifts, _ := r.Compare(0, v, x)
				spoil(shifts, api.Shift{Subject: "spoilt"})
			}
		}
		if after := told(r, names, p...); after != before {
			t.Errorf("%s\nbecame\n%s", before, after)
		}
	}
}

// TestR10Again checks that two records that are made in the same way tell the same.
func TestR10Again(t *testing.T) {
	for seed := range int64(30) {
		var texts []string
		for range 2 {
			r := rand.New(rand.NewSource(seed))
			schema := someSchema(r)
			got, _ := someRecord(t, r, schema, 6)
			texts = append(texts, told(got, namesOf(schema), somePattern(r, schema), somePattern(r, schema)))
		}
		if texts[0] != texts[1] {
			t.Errorf("%s\nand\n%s", texts[0], texts[1])
		}
	}
}
