package record

import (
	"slices"
	"strings"

	"voussoir/api"
)

// isSchema reports whether a schema is valid.
func isSchema(schema []api.Attribute) bool {
	if len(schema) > api.MaxAttributes {
		return false
	}
	var names []string
	for _, a := range schema {
		if !isAttribute(a) {
			return false
		}
		names = append(names, a.Name)
	}
	return areDifferentNames(names)
}

// isAttribute reports whether an attribute is a valid choice or a valid count.
func isAttribute(a api.Attribute) bool {
	if len(a.Values) > 0 {
		return len(a.Values) <= api.MaxValues && areDifferentNames(a.Values) && a.Low == 0 && a.High == 0
	}
	return -api.MaxInteger <= a.Low && a.Low <= a.High && a.High <= api.MaxInteger
}

// areDifferentNames reports whether all texts are names, of which none occurs twice.
func areDifferentNames(texts []string) bool {
	for i, t := range texts {
		if !isName(t) || slices.Contains(texts[:i], t) {
			return false
		}
	}
	return true
}

// isName reports whether a text is a name.
func isName(text string) bool {
	isWrong := func(c rune) bool { return !isLetter(c) && !('0' <= c && c <= '9') && c != '_' }
	return isFrom(1, len(text), maxName) && isLetter(rune(text[0])) && !strings.ContainsFunc(text, isWrong)
}

// maxName is how many bytes a name has at most.
const maxName = 20

// isLetter reports whether a character is one of the letters of names.
func isLetter(c rune) bool { return 'a' <= c && c <= 'z' }

// isSubject reports whether a text is a name, or two with a slash between them.
func isSubject(text string) bool {
	whole, part, isPart := strings.Cut(text, "/")
	return isName(whole) && (!isPart || isName(part))
}

// isFact reports whether a fact is valid for the schema.
func (r *Record) isFact(f api.Fact) bool {
	a, ok := r.attributes[f.Attribute]
	if !ok || !isSubject(f.Subject) {
		return false
	}
	if len(a.Values) > 0 {
		return len(f.Values) > 0 && areInOrder(f.Values, a.Values) && f.Low == 0 && f.High == 0
	}
	return len(f.Values) == 0 && a.Low <= f.Low && f.Low <= f.High && f.High <= a.High
}

// areInOrder reports whether some values are what remains of all of them when others are left out.
func areInOrder(some, all []string) bool {
	for _, v := range some {
		at := slices.Index(all, v)
		if at < 0 {
			return false
		}
		all = all[at+1:]
	}
	return true
}

// isPattern reports whether a pattern is valid for the schema.
func (r *Record) isPattern(p api.Pattern) bool {
	own := []api.Expr{p.Own}
	room := r.roomBehind(own, api.MaxExpr)
	if room < 0 || len(p.Parts) > api.MaxWanted || r.roomBehind(p.Parts, room) < 0 {
		return false
	}
	return len(askedBy(own)) <= api.MaxAsked && len(askedBy(p.Parts)) <= api.MaxAsked
}

// roomBehind returns how many expressions have room behind some and all of their Kids: fewer than 0 if one is not valid, or if there are too many. It goes no further than there is room, and so it ends also if an expression is among its own Kids.
func (r *Record) roomBehind(list []api.Expr, room int) int {
	for _, x := range list {
		if room <= 0 || !r.isExpr(x) {
			return -1
		}
		room = r.roomBehind(x.Kids, room-1)
	}
	return room
}

// isExpr reports whether an expression is valid if its Kids are.
func (r *Record) isExpr(x api.Expr) bool {
	isPlain := x.Attribute == "" && len(x.Values) == 0 && x.Low == 0 && x.High == 0
	switch x.Op {
	case api.ExprIn:
		f := api.Fact{Subject: "any", Attribute: x.Attribute, Values: x.Values, Low: x.Low, High: x.High}
		return len(x.Kids) == 0 && r.isFact(f)
	case api.ExprNot:
		return isPlain && len(x.Kids) == 1
	case api.ExprAnd, api.ExprOr:
		return isPlain && len(x.Kids) > 0
	}
	return false
}

// isFrom reports whether an integer is from low to high.
func isFrom(low, x, high int) bool { return low <= x && x <= high }
