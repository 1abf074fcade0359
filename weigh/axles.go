package weigh

import "voussoir/exact"

// axles are some axles of a train one after the other: the number of the first
// one, and that of the first one behind them.
type axles [2]int

// axle returns a single one.
func axle(i int) axles { return axles{i, i + 1} }

// count returns how many there are.
func (a axles) count() int { return a[1] - a[0] }

// sum returns the coefficients of the sum of their loads.
func (a axles) sum(p Pattern) []exact.Q {
	coefs := make([]exact.Q, p.axles())
	for i := range a.count() {
		coefs[a[0]+i] = exact.Int(1)
	}
	return coefs
}

// axles returns how many axles a train has.
func (p Pattern) axles() int { return len(p.Gaps) + 1 }

// vehicles returns the axles of each vehicle of a valid pattern.
func (p Pattern) vehicles() []axles {
	var list []axles
	next := 0
	for _, n := range p.Vehicles {
		list = append(list, axles{next, next + n})
		next += n
	}
	return list
}
