package record_test

import (
	"slices"
	"strconv"
	"strings"
	"testing"

	"voussoir/api"
	"voussoir/record"
)

// whole returns the integer of a text; it panics if there is none.
func whole(s string) int {
	n, e := strconv.Atoi(s)
	if e != nil {
		panic(e)
	}
	return n
}

// wholes returns the integers of a text, with blanks between them.
func wholes(s string) []int {
	var list []int
	for _, word := range strings.Fields(s) {
		list = append(list, whole(word))
	}
	return list
}

// statement returns the attribute of a text, and its values, or its integers from
// low to high, as in material=iron,wood or built=1800..1874.
func statement(s string) (attribute string, values []string, low, high int) {
	attribute, rest, ok := strings.Cut(s, "=")
	if !ok {
		panic("not a statement: " + s)
	}
	from, to, isCount := strings.Cut(rest, "..")
	if !isCount {
		return attribute, strings.Split(rest, ","), 0, 0
	}
	return attribute, nil, whole(from), whole(to)
}

// schema returns the schema of texts: the name of an attribute, a blank, and its
// values, or its integers.
func schema(texts ...string) []api.Attribute {
	var list []api.Attribute
	for _, text := range texts {
		var a api.Attribute
		a.Name, a.Values, a.Low, a.High = statement(text)
		list = append(list, a)
	}
	return list
}

// fact returns the fact of a text: its subject, a blank, and what it says.
func fact(s string) api.Fact {
	subject, rest, _ := strings.Cut(s, " ")
	f := api.Fact{Subject: subject}
	f.Attribute, f.Values, f.Low, f.High = statement(rest)
	return f
}

// facts returns the facts of texts.
func facts(texts ...string) []api.Fact {
	var list []api.Fact
	for _, text := range texts {
		list = append(list, fact(text))
	}
	return list
}

// expr returns the expression of a text: a statement, or in brackets a word and its
// Kids, as in (and material=iron (not built=1800..1874)).
func expr(s string) api.Expr {
	words := strings.Fields(strings.ReplaceAll(strings.ReplaceAll(s, "(", " ( "), ")", " ) "))
	x, rest := readExpr(words)
	if len(rest) > 0 {
		panic("not an expression: " + s)
	}
	return x
}

// readExpr returns the expression with which words begin, and the words behind it.
func readExpr(words []string) (api.Expr, []string) {
	if words[0] != "(" {
		x := api.Expr{Op: api.ExprIn}
		x.Attribute, x.Values, x.Low, x.High = statement(words[0])
		return x, words[1:]
	}
	ops := map[string]api.ExprOp{"not": api.ExprNot, "and": api.ExprAnd, "or": api.ExprOr}
	x := api.Expr{Op: ops[words[1]]}
	words = words[2:]
	for words[0] != ")" {
		var kid api.Expr
		kid, words = readExpr(words)
		x.Kids = append(x.Kids, kid)
	}
	return x, words[1:]
}

// pattern returns the pattern of the texts of its expressions, the own one first.
func pattern(own string, parts ...string) api.Pattern {
	p := api.Pattern{Own: expr(own)}
	for _, part := range parts {
		p.Parts = append(p.Parts, expr(part))
	}
	return p
}

// statementText returns the text of a statement.
func statementText(attribute string, values []string, low, high int) string {
	if len(values) > 0 {
		attribute += "=" + strings.Join(values, ",")
		if low == 0 && high == 0 {
			return attribute
		}
	}
	return attribute + "=" + strconv.Itoa(low) + ".." + strconv.Itoa(high)
}

// factText returns the text of a fact.
func factText(f api.Fact) string {
	return f.Subject + " " + statementText(f.Attribute, f.Values, f.Low, f.High)
}

// factsText returns the text of facts.
func factsText(list []api.Fact) string {
	var texts []string
	for _, f := range list {
		texts = append(texts, factText(f))
	}
	return strings.Join(texts, "; ")
}

// exprText returns the text of an expression.
func exprText(x api.Expr) string {
	if x.Op == api.ExprIn {
		return statementText(x.Attribute, x.Values, x.Low, x.High)
	}
	words := []string{map[api.ExprOp]string{api.ExprNot: "not", api.ExprAnd: "and", api.ExprOr: "or"}[x.Op]}
	for _, kid := range x.Kids {
		words = append(words, exprText(kid))
	}
	return "(" + strings.Join(words, " ") + ")"
}

// patternText returns the text of a pattern.
func patternText(p api.Pattern) string {
	texts := []string{exprText(p.Own)}
	for _, part := range p.Parts {
		texts = append(texts, exprText(part))
	}
	return strings.Join(texts, " with ")
}

// intText returns the text of integers.
func intText(list []int) string {
	var words []string
	for _, n := range list {
		words = append(words, strconv.Itoa(n))
	}
	return strings.Join(words, " ")
}

// knowledgeText returns the text of what is known.
func knowledgeText(k api.Knowledge) string {
	s := strings.Join(k.Values, ",") + " " + strconv.Itoa(k.Low) + ".." + strconv.Itoa(k.High) + " by " + intText(k.Facts)
	if k.Doubt {
		s += " in doubt"
	}
	return s
}

// likeText returns the text of a likeness.
func likeText(l api.Likeness) string {
	if l > api.Not {
		return "?"
	}
	return []string{"-", "surely", "possibly", "not"}[l]
}

// matchText returns the text of matches.
func matchText(list []api.Match) string {
	var words []string
	for _, m := range list {
		words = append(words, m.Subject+" "+likeText(m.Like))
	}
	return strings.Join(words, "; ")
}

// shiftText returns the text of shifts.
func shiftText(list []api.Shift) string {
	var words []string
	for _, s := range list {
		words = append(words, s.Subject+" "+likeText(s.Was)+" "+likeText(s.Is))
	}
	return strings.Join(words, "; ")
}

// bridges is the schema of the document's examples.
func bridges() []api.Attribute { return schema("material=steel,iron,wood", "built=1800..2030") }

// made returns a new record of a schema; it panics if there is none.
func made(schema []api.Attribute) *record.Record {
	r, e := record.New(schema)
	if e != api.OK || r == nil {
		panic("no record: " + strconv.Itoa(int(e)))
	}
	return r
}

// recorded returns a record of the schema of the examples with facts in the version 1.
func recorded(texts ...string) *record.Record {
	r := made(bridges())
	if n, e := r.Commit([]int{0}, facts(texts...), nil); n != 1 || e != api.OK {
		panic("no version: " + strconv.Itoa(int(e)))
	}
	return r
}

// commit checks that a version is made, and which number it has.
func commit(t *testing.T, r *record.Record, want int, parents string, withdraw string, add ...string) {
	t.Helper()
	n, e := r.Commit(wholes(parents), facts(add...), wholes(withdraw))
	if n != want || e != api.OK {
		t.Errorf("Commit from %s: version %d, error %d, not version %d", parents, n, e, want)
	}
}

// checkFacts checks which facts hold in a version.
func checkFacts(t *testing.T, r *record.Record, version int, want string) {
	t.Helper()
	list, e := r.Facts(version)
	if intText(list) != want || e != api.OK {
		t.Errorf("version %d has the facts %s (error %d), not %s", version, intText(list), e, want)
	}
}

// checkSubjects checks which subjects a version has.
func checkSubjects(t *testing.T, r *record.Record, version int, want string) {
	t.Helper()
	list, e := r.Subjects(version)
	if got := strings.Join(list, " "); got != want || e != api.OK {
		t.Errorf("version %d has the subjects %s (error %d), not %s", version, got, e, want)
	}
}

// checkKnown checks what is known of an attribute.
func checkKnown(t *testing.T, r *record.Record, version int, subject, attribute, want string) {
	t.Helper()
	k, e := r.Known(version, subject, attribute)
	if got := knowledgeText(k); got != want || e != api.OK {
		t.Errorf("known in %d of %s, %s: %s (error %d), not %s", version, subject, attribute, got, e, want)
	}
}

// checkLike checks how like a subject is.
func checkLike(t *testing.T, r *record.Record, version int, subject string, p api.Pattern, want string) {
	t.Helper()
	l, e := r.Like(version, subject, p)
	if got := likeText(l); got != want || e != api.OK {
		t.Errorf("in %d %s is %s like %s (error %d), not %s", version, subject, got, patternText(p), e, want)
	}
}

// checkQuery checks the matches of a pattern.
func checkQuery(t *testing.T, r *record.Record, version int, p api.Pattern, want string) {
	t.Helper()
	list, e := r.Query(version, p)
	if got := matchText(list); got != want || e != api.OK {
		t.Errorf("like %s in %d: %s (error %d), not %s", patternText(p), version, got, e, want)
	}
}

// checkCompare checks the shifts between two versions.
func checkCompare(t *testing.T, r *record.Record, before, after int, p api.Pattern, want string) {
	t.Helper()
	list, e := r.Compare(before, after, p)
	if got := shiftText(list); got != want || e != api.OK {
		t.Errorf("like %s in %d and %d: %s (error %d), not %s", patternText(p), before, after, got, e, want)
	}
}

// checkError checks an error.
func checkError(t *testing.T, what string, e, want api.Errno) {
	t.Helper()
	if e != want {
		t.Errorf("%s: error %d, not %d", what, e, want)
	}
}

// told returns all that a record tells of its versions, and of patterns in them.
func told(r *record.Record, names []string, patterns ...api.Pattern) string {
	lines := []string{strconv.Itoa(r.Versions())}
	for n := 1; ; n++ {
		f, e := r.Fact(n)
		if e != api.OK {
			break
		}
		lines = append(lines, factText(f))
	}
	for v := range r.Versions() {
		list, _ := r.Facts(v)
		subjects, _ := r.Subjects(v)
		lines = append(lines, intText(list), strings.Join(subjects, " "))
		for _, s := range subjects {
			for _, name := range names {
				k, _ := r.Known(v, s, name)
				lines = append(lines, knowledgeText(k))
			}
		}
		for _, p := range patterns {
			matches, e1 := r.Query(v, p)
			shifts, e2 := r.Compare(0, v, p)
			like, e3 := r.Like(v, "tay", p)
			lines = append(lines, matchText(matches), shiftText(shifts), likeText(like), intText([]int{int(e1), int(e2), int(e3)}))
		}
	}
	return strings.Join(lines, "\n")
}

// namesOf returns the names of the attributes of a schema.
func namesOf(schema []api.Attribute) []string {
	var names []string
	for _, a := range schema {
		names = append(names, a.Name)
	}
	return names
}

// has reports whether an integer is in a list.
func has(list []int, n int) bool { return slices.Contains(list, n) }
