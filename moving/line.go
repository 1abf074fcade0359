package moving

import (
	"slices"

	"voussoir/exact"
)

// value returns the value of a line at x. The line is valid, but it may have
// more points than influence lines may have.
func value(l []Point, x exact.Q) exact.Q {
	n, found := slices.BinarySearchFunc(l, x, func(p Point, x exact.Q) int { return p.X.Cmp(x) })
	switch {
	case found:
		return l[n].Y
	case n == 0 || n == len(l):
		return exact.Q{}
	}
	return l[n-1].Y.Plus(slope(l[n-1], l[n]).Times(x.Minus(l[n-1].X)))
}

// slope returns by how much a line rises, for each unit of length, between two
// points at different places.
func slope(from, to Point) exact.Q {
	rise, _ := to.Y.Minus(from.Y).Over(to.X.Minus(from.X))
	return rise
}

// moved returns a line that is moved to greater X, with other values.
func moved(l []Point, by exact.Q, value func(y exact.Q) exact.Q) []Point {
	list := make([]Point, len(l))
	for i, p := range l {
		list[i] = Point{p.X.Plus(by), value(p.Y)}
	}
	return list
}

// withZeros returns a line with a point more wherever it crosses 0 between two.
func withZeros(l []Point) []Point {
	var list []Point
	for i, p := range l {
		if i > 0 && p.Y.Sign()*l[i-1].Y.Sign() < 0 {
			back, _ := p.Y.Over(slope(l[i-1], p))
			list = append(list, Point{X: p.X.Minus(back)})
		}
		list = append(list, p)
	}
	return list
}

// bend is a place of a line, and by how much its slope changes there.
type bend struct{ at, change exact.Q }

// bends returns the bends of a line, which is level before it and behind it.
func bends(l []Point) []bend {
	list := make([]bend, len(l))
	var before exact.Q
	for i, p := range l {
		var after exact.Q
		if i+1 < len(l) {
			after = slope(p, l[i+1])
		}
		list[i] = bend{p.X, after.Minus(before)}
		before = after
	}
	return list
}

// sum returns the line whose value is everywhere the sum of those of some
// lines. It has a point wherever one of them has one. It is drawn from bend to
// bend, which takes far less work than to ask for the value of each line at
// each of the points.
func sum(lines [][]Point) []Point {
	var all []bend
	for _, l := range lines {
		all = append(all, bends(l)...)
	}
	slices.SortFunc(all, func(a, b bend) int { return a.at.Cmp(b.at) })
	list := make([]Point, len(all))
	var here Point
	var rise exact.Q
	for i, b := range all {
		here = Point{b.at, here.Y.Plus(rise.Times(b.at.Minus(here.X)))}
		rise = rise.Plus(b.change)
		list[i] = here
	}
	return slices.CompactFunc(list, func(p, q Point) bool { return p.X.Cmp(q.X) == 0 })
}
