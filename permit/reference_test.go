package permit_test

import (
	"cmp"
	"iter"
	"slices"

	"voussoir/api"
	"voussoir/exact"
	"voussoir/moving"
	"voussoir/permit"
)

// What the chapter says, as directly as it is said: with the effects of single
// vehicles on single lines at single positions, and with all lists of roads.

// linesAtEnds yields the lines whose numbers are ends of bands.
func linesAtEnds(l []moving.Band) iter.Seq[[]moving.Point] {
	return func(yield func([]moving.Point) bool) {
		for set := range 1 << len(l) {
			line, again := make([]moving.Point, len(l)), false
			for i, b := range l {
				line[i] = moving.Point{X: b.X, Y: b.Y.Low}
				if set>>i&1 == 1 {
					line[i].Y = b.Y.High
					again = again || b.Y.Low.Cmp(b.Y.High) == 0
				}
			}
			if !again && !yield(line) {
				return
			}
		}
	}
}

// vehiclesAtEnds yields the vehicles whose numbers are ends of loads.
func vehiclesAtEnds(v []moving.Load) iter.Seq[[]moving.Axle] {
	return func(yield func([]moving.Axle) bool) {
		for set := range 1 << len(v) {
			vehicle, again := make([]moving.Axle, len(v)), false
			for i, load := range v {
				vehicle[i] = moving.Axle{Load: load.Load.Low, Gap: load.Gap}
				if set>>i&1 == 1 {
					vehicle[i].Load = load.Load.High
					again = again || load.Load.Low.Cmp(load.Load.High) == 0
				}
			}
			if !again && !yield(vehicle) {
				return
			}
		}
	}
}

// stopsOf returns the positions at which an axle of a vehicle is at a point of a
// line, in no order.
func stopsOf(l []moving.Point, v []moving.Axle) []exact.Q {
	var list []exact.Q
	for _, p := range l {
		at := p.X
		for _, a := range v {
			list = append(list, at)
			at = at.Plus(a.Gap)
		}
	}
	return list
}

// effectsOf yields the effects on a member at stops, with all numbers at the
// ends of their spans. The effect is linear in each of these numbers alone, so
// that no number between the ends gives more.
func effectsOf(m permit.Member, v []moving.Load) iter.Seq[exact.Q] {
	return func(yield func(exact.Q) bool) {
		for line := range linesAtEnds(m.Bands) {
			for vehicle := range vehiclesAtEnds(v) {
				for _, at := range stopsOf(line, vehicle) {
					x, e := moving.Effect(line, vehicle, at)
					if e != api.OK {
						panic("not valid: " + memberText(m) + " or " + loadsText(v))
					}
					if !yield(x) {
						return
					}
				}
			}
		}
	}
}

// factorAt returns the impact factor at a speed.
func factorAt(table []moving.Impact, speed int) exact.Q {
	var factor exact.Q
	for _, i := range table {
		if i.From <= speed {
			factor = i.Factor
		}
	}
	return factor
}

// factorsOf returns the impact factors at some speeds, one of several equal ones
// one behind the other.
func factorsOf(table []moving.Impact, from, to int) []exact.Q {
	var list []exact.Q
	for speed := from; speed <= to; speed++ {
		list = append(list, factorAt(table, speed))
	}
	return slices.CompactFunc(list, func(x, y exact.Q) bool { return x.Cmp(y) == 0 })
}

// sumsOf returns the least and the greatest sum of Dead and the effects of a
// transport on a member with impact factors.
func sumsOf(m permit.Member, table []moving.Impact, t permit.Transport) exact.Span {
	var effects []exact.Q
	for x := range effectsOf(m, t.Loads) {
		effects = append(effects, x)
	}
	effects = []exact.Q{slices.MinFunc(effects, exact.Q.Cmp), slices.MaxFunc(effects, exact.Q.Cmp)}
	var sums []exact.Q
	for _, factor := range factorsOf(table, t.From, t.To) {
		for _, x := range effects {
			sums = append(sums, m.Dead.Low.Plus(x.Times(factor)), m.Dead.High.Plus(x.Times(factor)))
		}
	}
	return exact.Span{Low: slices.MinFunc(sums, exact.Q.Cmp), High: slices.MaxFunc(sums, exact.Q.Cmp)}
}

// isSafe reports whether a member is safe for a transport.
func isSafe(m permit.Member, table []moving.Impact, t permit.Transport) bool {
	sums := sumsOf(m, table, t)
	return m.Low.Cmp(sums.Low) <= 0 && sums.High.Cmp(m.High) <= 0
}

// firstUnsafe returns the first member that is not safe, or -1.
func firstUnsafe(b permit.Bridge, t permit.Transport) int {
	for i, m := range b.Members {
		if !isSafe(m, b.Impact, t) {
			return i
		}
	}
	return -1
}

// timesLoads returns a transport with all loads multiplied by a factor.
func timesLoads(t permit.Transport, factor exact.Q) permit.Transport {
	t.Loads = slices.Clone(t.Loads)
	for i, l := range t.Loads {
		t.Loads[i].Load = exact.Span{Low: l.Load.Low.Times(factor), High: l.Load.High.Times(factor)}
	}
	return t
}

// usableOf says for each road whether it is usable.
func usableOf(n permit.Net, t permit.Transport, w api.Weather) []bool {
	var list []bool
	for _, r := range n.Roads {
		usable := true
		for _, number := range r.Bridges {
			b := n.Bridges[number]
			open := w.Wind <= b.Most.Wind && w.Water <= b.Most.Water && w.Tremor <= b.Most.Tremor
			usable = usable && open && firstUnsafe(b, t) == -1
		}
		list = append(list, usable)
	}
	return list
}

// otherEnd returns where a road leads from a place, or -1.
func otherEnd(r permit.Road, place int) int {
	if r.A == place {
		return r.B
	}
	if r.B == place {
		return r.A
	}
	return -1
}

// followed returns how many of some roads can be followed, and the places that
// they pass, the last one last.
func followed(n permit.Net, usable []bool, from int, roads []int) (int, []int) {
	passed := []int{from}
	for i, number := range roads {
		if number < 0 || number >= len(n.Roads) || !usable[number] {
			return i, passed
		}
		next := otherEnd(n.Roads[number], passed[len(passed)-1])
		if next == -1 || slices.Contains(passed, next) {
			return i, passed
		}
		passed = append(passed, next)
	}
	return len(roads), passed
}

// routesOf returns all routes from a place to another one.
func routesOf(n permit.Net, usable []bool, from, to int) [][]int {
	var routes [][]int
	var drive func(roads []int)
	drive = func(roads []int) {
		count, passed := followed(n, usable, from, roads)
		if count < len(roads) {
			return
		}
		if passed[len(passed)-1] == to {
			routes = append(routes, roads)
		}
		for number := range n.Roads {
			drive(append(slices.Clone(roads), number))
		}
	}
	drive(nil)
	return routes
}

// lengthOf returns the sum of the lengths of roads.
func lengthOf(n permit.Net, roads []int) int {
	sum := 0
	for _, number := range roads {
		sum += n.Roads[number].Length
	}
	return sum
}

// bestOf returns the best one of some routes.
func bestOf(n permit.Net, routes [][]int) []int {
	return slices.MinFunc(routes, func(a, b []int) int {
		return cmp.Or(cmp.Compare(lengthOf(n, a), lengthOf(n, b)), cmp.Compare(len(a), len(b)), slices.Compare(a, b))
	})
}

// reachedOf says for each place whether usable roads lead to it from a place.
func reachedOf(n permit.Net, usable []bool, from int) []bool {
	reached := make([]bool, n.Places)
	reached[from] = true
	for range n.Places {
		for number, r := range n.Roads {
			if usable[number] && (reached[r.A] || reached[r.B]) {
				reached[r.A], reached[r.B] = true, true
			}
		}
	}
	return reached
}
