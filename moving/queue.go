package moving

import (
	"slices"

	"voussoir/api"
	"voussoir/exact"
)

// Queue returns the span of the effects of queues of vehicles.
func Queue(l []Point, v []Axle, distance exact.Q, most int) (exact.Span, api.Errno) {
	inRange := !isNegative(distance) && isFrom(0, most, api.MaxVehicles)
	if e := first(CheckLine(l), CheckVehicle(v), unless(inRange, api.ErrRange)); e != api.OK {
		return exact.Span{}, e
	}
	apart := behind(v, Axle.gap)[len(v)-1].Plus(distance)
	over := passage(l, v)
	under := moved(over, exact.Q{}, exact.Q.Neg)
	return exact.Between(greatest(under, apart, most).Neg(), greatest(over, apart, most)), api.OK
}

// greatest returns the greatest sum of the effects of a queue of at most so many
// vehicles. The effects of one of them are a line with a point at each stop; the
// positions of two of them are apart by at least so much.
func greatest(effects []Point, apart exact.Q, most int) exact.Q {
	list := places(effects, apart, most)
	best := make([]exact.Q, len(list)+1) // the greatest sum at each place and those above it
	for range most {
		more := make([]exact.Q, len(best)) // the same with one vehicle more
		next := len(list)
		for i, p := range slices.Backward(list) {
			for next > i && list[next-1].X.Minus(p.X).Cmp(apart) >= 0 {
				next--
			}
			more[i] = exact.Between(more[i+1], p.Y.Plus(best[next])).High
		}
		best = more
	}
	return best[0]
}

// places returns positions, in ascending order and with their effects, at which
// all vehicles of some queue with the greatest sum are.
//
// A vehicle whose effect is not above 0 can be left out. Of the others, take
// some that are as close together as they may be, none of them at a top. While
// they are moved together, the slope of the sum of their effects never falls;
// and as no sum is greater, it is 0. So they can be moved until one of them gets
// to a top, or as close to another vehicle as it may be, and nothing is lost.
func places(effects []Point, apart exact.Q, most int) []Point {
	var all []exact.Q
	for _, top := range tops(effects) {
		for n := range 2*most - 1 {
			all = append(all, top.Plus(apart.Times(exact.Int(int64(n-most+1)))))
		}
	}
	slices.SortFunc(all, exact.Q.Cmp)
	all = slices.CompactFunc(all, func(x, y exact.Q) bool { return x.Cmp(y) == 0 })
	var list []Point
	for _, x := range all {
		if y := value(effects, x); y.Sign() > 0 {
			list = append(list, Point{x, y})
		}
	}
	return list
}

// tops returns the places at which the slope of a line falls.
func tops(l []Point) []exact.Q {
	var list []exact.Q
	for _, b := range bends(l) {
		if isNegative(b.change) {
			list = append(list, b.at)
		}
	}
	return list
}
