package record_test

import (
	"slices"
	"strconv"
	"strings"
	"testing"

	"voussoir/api"
	"voussoir/record"
)

// numbered returns names with numbers from 0 on.
func numbered(name string, count int) []string {
	var list []string
	for i := range count {
		list = append(list, name+strconv.Itoa(i))
	}
	return list
}

// counted returns counts with the names a0, a1 and so on.
func counted(count int) []api.Attribute {
	var list []api.Attribute
	for _, name := range numbered("a", count) {
		list = append(list, api.Attribute{Name: name, High: 9})
	}
	return list
}

// good and bad texts for names.
var (
	goodNames = []string{"a", "z", "tay", "a0", "a_", "z9_z", strings.Repeat("a", 20), "a" + strings.Repeat("_", 19)}
	badNames  = []string{"", "_", "0", "0a", "_a", "A", "aB", "tay bridge", "a-b", "a.b", "é", "aé", "a\x00", "a\n", " a", "a ", "{", "`", "a`", "a{", "a:", "a\xff", strings.Repeat("a", 21), "a@", "a["}
)

func TestP11_1Schema(t *testing.T) {
	count := func(low, high int) []api.Attribute {
		return []api.Attribute{{Name: "n", Low: low, High: high}}
	}
	choice := func(values ...string) []api.Attribute { return []api.Attribute{{Name: "n", Values: values}} }
	right := [][]api.Attribute{nil, {}, counted(12), count(0, 0), count(-1000000, 1000000), count(1000000, 1000000), count(-1000000, -1000000),
		choice("a"), choice(numbered("v", 8)...), choice("b", "a"), choice("n"), append(choice("a"), counted(11)...), choice(goodNames...)}
	for _, name := range goodNames {
		right = append(right, []api.Attribute{{Name: name}})
	}
	for _, s := range right {
		r, e := record.New(s)
		if r == nil || e != api.OK || r.Versions() != 1 {
			t.Error("New", s, e)
		}
	}
	wrong := [][]api.Attribute{counted(13), count(1, 0), count(-1000001, 0), count(0, 1000001), count(1000001, 1000001), count(-1<<63, 1<<63-1),
		choice(numbered("v", 9)...), choice("a", "a"), choice("a", "b", "a"), append(counted(3), api.Attribute{Name: "a1"}),
		{{Name: "n", Values: []string{"a"}, Low: -1}}, {{Name: "n", Values: []string{"a"}, High: 1}}, {{Name: "n", Values: []string{"a"}, Low: 1, High: 1}},
		append(choice("a"), choice("b")...)}
	for _, name := range badNames {
		wrong = append(wrong, []api.Attribute{{Name: name}}, choice(name), choice("a", name), append(counted(1), api.Attribute{Name: name}))
	}
	wrong = append(wrong, choice("a/b"), []api.Attribute{{Name: "a/b"}})
	for _, s := range wrong {
		if r, e := record.New(s); r != nil || e != api.ErrSchema {
			t.Error("New", s, e)
		}
	}
}

// wrongFacts are facts that are not valid for the schema of the examples.
func wrongFacts() []api.Fact {
	list := []api.Fact{
		{}, {Subject: "tay"}, {Subject: "tay", Attribute: "material"}, {Subject: "tay", Attribute: "built"},
		{Subject: "tay", Attribute: "length", Low: 1, High: 1},
		{Subject: "tay", Attribute: "material", Values: []string{"iron"}, High: 1},
		{Subject: "tay", Attribute: "material", Values: []string{"iron"}, Low: -1},
		{Subject: "tay", Attribute: "material", Low: 1800, High: 1900},
		{Subject: "tay", Attribute: "built", Values: []string{"iron"}},
		{Subject: "tay", Attribute: "built", Values: []string{"iron"}, Low: 1800, High: 1900},
	}
	for _, text := range []string{"tay material=stone", "tay material=iron,stone", "tay material=iron,steel", "tay material=wood,iron",
		"tay material=iron,iron", "tay material=steel,iron,wood,wood", "tay material=", "tay material=steel,,iron", "tay Material=iron", "tay =iron",
		"tay built=1799..1900", "tay built=1800..2031", "tay built=1900..1899", "tay built=2031..2031", "tay built=1799..1799",
		"tay/ built=1900..1900", "/tay built=1900..1900", "/ built=1900..1900", "tay/a/b built=1900..1900", "tay//a built=1900..1900", "tay/a/ built=1900..1900"} {
		list = append(list, fact(text))
	}
	for _, name := range badNames {
		for _, subject := range []string{name, "tay/" + name, name + "/a"} {
			list = append(list, api.Fact{Subject: subject, Attribute: "built", Low: 1900, High: 1900})
		}
	}
	return list
}

func TestP11_2Facts(t *testing.T) {
	for _, f := range wrongFacts() {
		r := recorded("tay material=iron")
		for _, list := range [][]api.Fact{{f}, {fact("tay material=iron"), f}, {f, fact("tay material=iron")}} {
			if n, e := r.Commit([]int{1}, list, nil); n != 0 || e != api.ErrFact {
				t.Errorf("Commit of %s: version %d, error %d", factsText(list), n, e)
			}
		}
		if _, e := r.Fact(2); r.Versions() != 2 || e != api.ErrNone {
			t.Errorf("after %s: %d versions, error %d", factText(f), r.Versions(), e)
		}
	}
	for _, name := range goodNames {
		r := recorded(name+" built=1800..2030", name+"/"+name+" built=1800..1800", name+"/a material=steel,iron,wood", "tay built=2030..2030")
		checkFacts(t, r, 1, "1 2 3 4")
	}
}

func TestP11_2Errors(t *testing.T) {
	r := recorded("tay material=iron", "tay material=wood")
	commit(t, r, 2, "1", "1", "tay built=1900..1900")
	commit(t, r, 3, "0", "", "esk built=1900..1900")
	bad := api.Fact{}
	good := fact("tay material=iron")
	for _, c := range []struct {
		parents  []int
		add      []api.Fact
		withdraw []int
		want     api.Errno
	}{
		{nil, nil, nil, api.ErrArg},
		{[]int{}, []api.Fact{bad}, []int{9}, api.ErrArg},
		{[]int{0, 1, 2, 3, 9}, nil, nil, api.ErrArg},
		{[]int{0, 1, 0}, nil, nil, api.ErrArg},
		{[]int{1, 1}, nil, nil, api.ErrArg},
		{[]int{9, 9}, []api.Fact{bad}, nil, api.ErrArg},
		{[]int{4}, []api.Fact{bad}, []int{9}, api.ErrVersion},
		{[]int{-1}, nil, nil, api.ErrVersion},
		{[]int{0, 4}, nil, nil, api.ErrVersion},
		{[]int{1 << 62}, nil, nil, api.ErrVersion},
		{[]int{-1 << 63, 1<<63 - 1}, nil, nil, api.ErrVersion},
		{[]int{1}, []api.Fact{good, bad}, []int{9}, api.ErrFact},
		{[]int{1}, []api.Fact{bad, good}, nil, api.ErrFact},
		{[]int{1}, []api.Fact{good}, []int{3}, api.ErrNone},      // of another branch
		{[]int{2}, nil, []int{1}, api.ErrNone},                   // withdrawn already
		{[]int{1}, nil, []int{0}, api.ErrNone},                   // no fact
		{[]int{1}, nil, []int{-1}, api.ErrNone},                  // nor this
		{[]int{1}, nil, []int{1, 5}, api.ErrNone},                // nor this
		{[]int{1}, nil, []int{1, 2, 1}, api.ErrNone},             // twice
		{[]int{1}, []api.Fact{good}, []int{5}, api.ErrNone},      // what is only now added
		{[]int{0, 3}, nil, []int{1}, api.ErrNone},                // in none of them
		{[]int{1}, nil, []int{1 << 62}, api.ErrNone},             // much too great
		{[]int{1}, nil, []int{-1 << 63, 1<<63 - 1}, api.ErrNone}, // and small
	} {
		if n, e := r.Commit(c.parents, c.add, c.withdraw); n != 0 || e != c.want {
			t.Errorf("Commit from %v of %s without %v: version %d, error %d, not %d", c.parents, factsText(c.add), c.withdraw, n, e, c.want)
		}
		if _, e := r.Fact(5); r.Versions() != 4 || e != api.ErrNone {
			t.Fatal("something was committed", c)
		}
	}
	commit(t, r, 4, "0 1 2 3", "1 4 2") // each holds in one of them
	checkFacts(t, r, 4, "3")
	commit(t, r, 5, "3 2", "3", "tay built=1900..1900")
	checkFacts(t, r, 5, "2 4 5")
}

func TestP11_2Versions(t *testing.T) {
	r := recorded("tay material=iron")
	for n := 2; n < api.MaxVersions; n++ {
		commit(t, r, n, strconv.Itoa(n-1), "")
	}
	for _, c := range []struct {
		parents  []int
		add      []api.Fact
		withdraw []int
		want     api.Errno
	}{{[]int{199}, nil, nil, api.ErrFull}, {[]int{0}, nil, nil, api.ErrFull}, {[]int{200}, nil, nil, api.ErrVersion},
		{[]int{1}, []api.Fact{{}}, nil, api.ErrFact}, {[]int{1}, nil, []int{2}, api.ErrNone}, {nil, nil, nil, api.ErrArg},
		{[]int{1}, facts("tay material=iron"), []int{1}, api.ErrFull}} {
		if n, e := r.Commit(c.parents, c.add, c.withdraw); n != 0 || e != c.want {
			t.Error("Commit", c, n, e)
		}
	}
	if r.Versions() != api.MaxVersions {
		t.Error(r.Versions(), "versions")
	}
	checkFacts(t, r, 199, "1")
}

func TestP11_2Recorded(t *testing.T) {
	r := made(bridges())
	list := slices.Repeat(facts("tay material=iron"), api.MaxRecorded)
	if n, e := r.Commit([]int{0}, append(list, list[0]), nil); n != 0 || e != api.ErrFull {
		t.Error("too many facts at once", n, e)
	}
	if n, e := r.Commit([]int{0}, list[1:], nil); n != 1 || e != api.OK {
		t.Error("one less", n, e)
	}
	if n, e := r.Commit([]int{0}, list[:2], nil); n != 0 || e != api.ErrFull {
		t.Error("two more", n, e)
	}
	commit(t, r, 2, "0", "", "esk material=iron")
	if n, e := r.Commit([]int{0}, list[:1], nil); n != 0 || e != api.ErrFull {
		t.Error("another one", n, e)
	}
	commit(t, r, 3, "1 2", "300 1 64 63 65 128 127 256 255")
	var want []int
	for n := range 300 {
		if !slices.Contains([]int{0, 1, 64, 63, 65, 128, 127, 256, 255}, n) {
			want = append(want, n)
		}
	}
	checkFacts(t, r, 3, intText(want))
	checkFacts(t, r, 2, "300")
	f, e := r.Fact(300)
	if factText(f) != "esk material=iron" || e != api.OK {
		t.Error("Fact", factText(f), e)
	}
}

// TestP11_3Errors checks versions that are none.
func TestP11_3Errors(t *testing.T) {
	r := recorded("tay material=iron")
	p := pattern("material=iron")
	for _, v := range []int{-1, 2, 200, 1 << 62, -1 << 63} {
		list, e := r.Facts(v)
		if len(list) != 0 || e != api.ErrVersion {
			t.Error("Facts", v, list, e)
		}
		subjects, e := r.Subjects(v)
		if len(subjects) != 0 || e != api.ErrVersion {
			t.Error("Subjects", v, subjects, e)
		}
		for _, s := range []string{"tay", ""} {
			for _, a := range []string{"material", ""} {
				k, e := r.Known(v, s, a)
				if knowledgeText(k) != knowledgeText(api.Knowledge{}) || e != api.ErrVersion {
					t.Error("Known", v, k, e)
				}
			}
			for _, p := range []api.Pattern{p, {}} {
				l, e := r.Like(v, s, p)
				if l != 0 || e != api.ErrVersion {
					t.Error("Like", v, l, e)
				}
			}
		}
		for _, p := range []api.Pattern{p, {}} {
			matches, e := r.Query(v, p)
			if len(matches) != 0 || e != api.ErrVersion {
				t.Error("Query", v, matches, e)
			}
			for _, pair := range [][2]int{{v, 1}, {1, v}, {v, v}} {
				shifts, e := r.Compare(pair[0], pair[1], p)
				if len(shifts) != 0 || e != api.ErrVersion {
					t.Error("Compare", pair, shifts, e)
				}
			}
		}
	}
}

func TestP11_4Errors(t *testing.T) {
	r := recorded("tay material=iron")
	for _, c := range []struct {
		subject, attribute string
		want               api.Errno
	}{{"tay", "length", api.ErrNone}, {"tay", "", api.ErrNone}, {"tay/a", "iron", api.ErrNone}, {"nobody", "Material", api.ErrNone}, {"tay/", "material", api.ErrArg}, {"tay/a/b", "material", api.ErrArg}, {"", "length", api.ErrArg}, {"/", "material", api.ErrArg}} {
		k, e := r.Known(1, c.subject, c.attribute)
		if knowledgeText(k) != knowledgeText(api.Knowledge{}) || e != c.want {
			t.Error("Known", c, k, e)
		}
	}
	for _, name := range badNames {
		for _, subject := range []string{name, "tay/" + name, name + "/a"} {
			if _, e := r.Known(1, subject, "material"); e != api.ErrArg {
				t.Error("Known", subject, e)
			}
		}
		if l, e := r.Like(1, name, pattern("material=iron")); l != 0 || e != api.ErrArg {
			t.Error("Like", name, l, e)
		}
	}
	for _, name := range goodNames {
		checkKnown(t, r, 1, name, "built", " 1800..2030 by ")
		checkKnown(t, r, 1, name+"/"+name, "built", " 1800..2030 by ")
		checkLike(t, r, 1, name, pattern("built=1800..2030"), "surely")
	}
}

// checkPattern checks what error a pattern gives in a version.
func checkPattern(t *testing.T, r *record.Record, version int, p api.Pattern, want api.Errno) {
	t.Helper()
	l, e := r.Like(version, "tay", p)
	if e != want || (l == 0) != (want != api.OK) {
		t.Errorf("Like %s: %s, error %d, not %d", patternText(p), likeText(l), e, want)
	}
	matches, e := r.Query(version, p)
	if e != want || want != api.OK && len(matches) != 0 {
		t.Errorf("Query %s: %s, error %d, not %d", patternText(p), matchText(matches), e, want)
	}
	shifts, e := r.Compare(version, 0, p)
	if e != want || want != api.OK && len(shifts) != 0 {
		t.Errorf("Compare %s: %s, error %d, not %d", patternText(p), shiftText(shifts), e, want)
	}
}

// wrongExprs are expressions that are not valid for the schema of the examples.
func wrongExprs() []api.Expr {
	in := expr("material=iron")
	list := []api.Expr{{}, {Op: 5, Attribute: "material", Values: []string{"iron"}}, {Op: 255, Kids: []api.Expr{in}}, {Attribute: "material", Values: []string{"iron"}},
		{Op: api.ExprNot}, {Op: api.ExprAnd}, {Op: api.ExprOr}, {Op: api.ExprIn}, {Op: api.ExprNot, Kids: []api.Expr{in, in}},
		{Op: api.ExprIn, Attribute: "material", Values: []string{"iron"}, Kids: []api.Expr{in}}}
	for _, op := range []api.ExprOp{api.ExprNot, api.ExprAnd, api.ExprOr} {
		kids := []api.Expr{in}
		list = append(list, api.Expr{Op: op, Kids: kids, Attribute: "material"}, api.Expr{Op: op, Kids: kids, Values: []string{"iron"}},
			api.Expr{Op: op, Kids: kids, Low: 1}, api.Expr{Op: op, Kids: kids, High: -1}, api.Expr{Op: op, Kids: kids, Low: 1900, High: 1900},
			api.Expr{Op: op, Kids: []api.Expr{{}}})
	}
	for _, f := range wrongFacts() {
		if f.Subject == "tay" {
			list = append(list, api.Expr{Op: api.ExprIn, Attribute: f.Attribute, Values: f.Values, Low: f.Low, High: f.High})
		}
	}
	return list
}

func TestP11_5Patterns(t *testing.T) {
	r := recorded("tay material=iron", "tay/a material=iron")
	in := expr("material=iron")
	for _, x := range wrongExprs() {
		for _, wrong := range []api.Expr{x, {Op: api.ExprNot, Kids: []api.Expr{x}}, {Op: api.ExprAnd, Kids: []api.Expr{in, x, in}}, {Op: api.ExprOr, Kids: []api.Expr{x, in}},
			{Op: api.ExprNot, Kids: []api.Expr{{Op: api.ExprOr, Kids: []api.Expr{in, x}}}}} {
			checkPattern(t, r, 1, api.Pattern{Own: wrong}, api.ErrPattern)
			checkPattern(t, r, 1, api.Pattern{Own: in, Parts: []api.Expr{wrong}}, api.ErrPattern)
			checkPattern(t, r, 1, api.Pattern{Own: in, Parts: []api.Expr{in, in, wrong}}, api.ErrPattern)
		}
	}
	checkPattern(t, r, 1, pattern("material=iron", "material=iron", "material=iron", "material=iron"), api.OK)
	checkPattern(t, r, 1, pattern("material=iron", "material=iron", "material=iron", "material=iron", "material=iron"), api.ErrPattern)
	if l, e := r.Like(1, "Tay", api.Pattern{}); l != 0 || e != api.ErrArg {
		t.Error("Like of no name", l, e)
	}
	for _, part := range []string{"tay/a", "tay/b", "tay/"} {
		if l, e := r.Like(1, part, pattern("material=iron")); l != 0 || e != api.ErrArg {
			t.Error("Like of a part", l, e)
		}
	}
}

// joinedBy returns the expression that joins statements about attributes a0, a1 and so on.
func joinedBy(word string, attributes ...string) string {
	s := "(" + word
	for _, a := range attributes {
		s += " " + a + "=1..2"
	}
	return s + ")"
}

// TestP11_5Asked checks how many different attributes a pattern may ask for.
func TestP11_5Asked(t *testing.T) {
	r := made(counted(12))
	commit(t, r, 1, "0", "", "tay/p a0=1..1")
	four, five := joinedBy("and", "a0", "a1", "a2", "a11"), joinedBy("or", "a0", "a1", "a2", "a11", "a4")
	again := joinedBy("or", "a0", "a1", "a0", "a2", "a1", "a11", "a11")
	others := joinedBy("or", "a4", "a5", "a6", "a7")
	for _, c := range []struct {
		own   string
		parts []string
		want  api.Errno
	}{
		{four, nil, api.OK}, {five, nil, api.ErrPattern}, {again, nil, api.OK},
		{"(not (not " + five + "))", nil, api.ErrPattern},
		{"(or a4=1..1 (not " + four + "))", nil, api.ErrPattern},
		{four, []string{others}, api.OK}, // the subject and the parts are counted apart
		{four, []string{five}, api.ErrPattern},
		{"a0=0..0", []string{joinedBy("and", "a0", "a1"), joinedBy("and", "a2", "a3")}, api.OK},
		{"a0=0..0", []string{joinedBy("and", "a0", "a1"), joinedBy("and", "a2", "a3", "a4")}, api.ErrPattern},
		{"a0=0..0", []string{joinedBy("and", "a0", "a1"), joinedBy("and", "a2", "a3", "a1"), "a0=3..3"}, api.OK},
		{"a0=0..0", []string{joinedBy("and", "a0", "a1"), joinedBy("and", "a2", "a3", "a1"), "a4=3..3"}, api.ErrPattern},
		{"a0=0..0", []string{"a5=0..0", four}, api.ErrPattern},
	} {
		checkPattern(t, r, 1, pattern(c.own, c.parts...), c.want)
	}
}

// repeated returns a joined expression that is a number of expressions in all.
func repeated(count int) string {
	return "(or" + strings.Repeat(" a0=1..2", count-1) + ")"
}

// negated returns an expression in brackets with not, a number of expressions in all.
func negated(count int) string {
	return strings.Repeat("(not ", count-1) + "a0=1..2" + strings.Repeat(")", count-1)
}

// TestP11_5Size checks how many expressions a pattern may have.
func TestP11_5Size(t *testing.T) {
	r := made(counted(1))
	commit(t, r, 1, "0", "", "tay/p a0=1..1", "tay a0=1..1")
	for _, c := range []struct {
		own   string
		parts []string
		want  api.Errno
	}{
		{repeated(30), nil, api.OK}, {repeated(31), nil, api.ErrPattern}, {repeated(1000), nil, api.ErrPattern},
		{negated(30), nil, api.OK}, {negated(31), nil, api.ErrPattern}, {negated(500), nil, api.ErrPattern},
		{"a0=1..1", []string{repeated(29)}, api.OK}, {"a0=1..1", []string{repeated(30)}, api.ErrPattern},
		{repeated(29), []string{"a0=1..1"}, api.OK}, {repeated(29), []string{negated(2)}, api.ErrPattern}, {repeated(30), []string{"a0=1..1"}, api.ErrPattern},
		{repeated(10), []string{repeated(10), negated(9), "a0=1..1"}, api.OK},
		{repeated(10), []string{repeated(10), negated(9), negated(2)}, api.ErrPattern},
		{repeated(10), []string{repeated(12), negated(9)}, api.ErrPattern},
		{"(and " + negated(20) + " " + repeated(9) + ")", nil, api.OK},
		{"(and " + negated(20) + " " + repeated(10) + ")", nil, api.ErrPattern},
		{"(and " + repeated(27) + " " + negated(2) + ")", nil, api.OK},
		{"(and " + repeated(27) + " " + negated(3) + ")", nil, api.ErrPattern},
	} {
		checkPattern(t, r, 1, pattern(c.own, c.parts...), c.want)
	}
	checkLike(t, r, 1, "tay", pattern(negated(30)), "not")
	checkLike(t, r, 1, "tay", pattern(negated(29)), "surely")
}

// TestP11_5Pieces checks how many parts a subject may have.
func TestP11_5Pieces(t *testing.T) {
	iron, anyPart := pattern("material=iron"), pattern(anyway, "material=iron")
	var twelve []string
	for _, name := range numbered("tay/p", 12) {
		twelve = append(twelve, name+" material=steel,wood")
	}
	r := recorded(append(twelve, "tay/p0 built=1900..1900", "tay material=wood", "tay_2/p13 material=iron")...)
	checkLike(t, r, 1, "tay", iron, "not")
	checkLike(t, r, 1, "tay", anyPart, "not")
	checkQuery(t, r, 1, anyPart, "tay_2 surely")
	commit(t, r, 2, "1", "", "tay/last material=iron")
	for _, p := range []api.Pattern{iron, anyPart} {
		l, e := r.Like(2, "tay", p)
		if l != 0 || e != api.ErrLong {
			t.Error("Like", l, e)
		}
		checkLike(t, r, 2, "esk", p, map[bool]string{true: "not", false: "possibly"}[len(p.Parts) > 0])
		matches, e := r.Query(2, p)
		if len(matches) != 0 || e != api.ErrLong {
			t.Error("Query", matches, e)
		}
		for _, pair := range [][2]int{{2, 1}, {1, 2}, {0, 2}, {2, 2}, {2, 0}} {
			shifts, e := r.Compare(pair[0], pair[1], p)
			if len(shifts) != 0 || e != api.ErrLong {
				t.Error("Compare", pair, shifts, e)
			}
		}
	}
	checkPattern(t, r, 2, api.Pattern{}, api.ErrPattern)
	commit(t, r, 3, "2", "1 13", twelve[1])
	checkLike(t, r, 3, "tay", anyPart, "surely")
	checkCompare(t, r, 1, 3, anyPart, "tay not surely")
}
