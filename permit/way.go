package permit

import (
	"cmp"
	"slices"

	"voussoir/api"
)

// way is how long a way to a place is, and how many roads it has.
type way struct{ length, roads int }

// endless is longer than any way: none has a road twice.
const endless = api.MaxRoads*api.MaxLength + 1

// noWay is worse than any way.
func noWay() way { return way{length: endless} }

// isNone reports whether there is no way.
func (w way) isNone() bool { return w == noWay() }

// over returns a way with a road before it.
func (w way) over(r Road) way { return way{w.length + r.Length, w.roads + 1} }

// orBetter returns the better one of two ways.
func (w way) orBetter(v way) way {
	if cmp.Or(cmp.Compare(v.length, w.length), cmp.Compare(v.roads, w.roads)) < 0 {
		return v
	}
	return w
}

// ways returns the best way from each place to one of them, by usable roads. No
// best way passes a place twice, as it would have fewer roads without the circle.
func (n Net) ways(usable []bool, to int) []way {
	ways := slices.Repeat([]way{noWay()}, n.Places)
	ways[to] = way{}
	for range n.Places - 1 { // so many roads a way has at most
		for road, r := range n.Roads {
			if usable[road] {
				ways[r.A] = ways[r.A].orBetter(ways[r.B].over(r))
				ways[r.B] = ways[r.B].orBetter(ways[r.A].over(r))
			}
		}
	}
	return ways
}

// best returns the smallest list of roads that is a best way from a place, from
// which there is a way. Its first road is the first one with a best way behind
// it that makes up a best way together with it, and so on.
func (n Net) best(usable []bool, ways []way, from int) []int {
	var list []int
	for range ways[from].roads {
		road, next := n.first(usable, ways, from)
		list, from = append(list, road), next
	}
	return list
}

// first returns the first road of a best way from a place, and where it leads.
func (n Net) first(usable []bool, ways []way, from int) (road, next int) {
	for road, r := range n.Roads {
		next, leads := r.from(from)
		if leads && usable[road] && ways[next].over(r) == ways[from] {
			return road, next
		}
	}
	return 0, 0
}
