package damage

import (
	"cmp"
	"slices"

	"voussoir/api"
)

// Liars returns the smallest sets of sensors without whose readings there is an explanation.
func Liars(w Watch) ([][]int, api.Errno) {
	if e := Check(w); e != api.OK {
		return nil, e
	}
	var found [][]int
	for _, set := range w.sets() {
		if len(found) > 0 && len(set) > len(found[0]) {
			break
		}
		if rest := w.without(set); rest.isPossible(rest.rows()) {
			found = append(found, set)
		}
	}
	return found, api.OK
}

// sets returns all sets of sensors: smaller ones first, and those of one size
// in ascending order.
func (w Watch) sets() [][]int {
	var sets [][]int
	for bits := range 1 << len(w.Sensors) {
		var set []int
		for sensor := range len(w.Sensors) {
			if bits>>sensor&1 == 1 {
				set = append(set, sensor)
			}
		}
		sets = append(sets, set)
	}
	slices.SortFunc(sets, func(a, b []int) int {
		return cmp.Or(cmp.Compare(len(a), len(b)), slices.Compare(a, b))
	})
	return sets
}

// without returns a watch without the readings of some sensors.
func (w Watch) without(sensors []int) Watch {
	isTheirs := func(r Reading) bool { return slices.Contains(sensors, r.Sensor) }
	w.Readings = slices.DeleteFunc(slices.Clone(w.Readings), isTheirs)
	return w
}
