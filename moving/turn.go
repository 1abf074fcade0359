package moving

import (
	"slices"

	"voussoir/api"
	"voussoir/exact"
)

// Mirror returns the line in the other direction.
func Mirror(l []Point) ([]Point, api.Errno) {
	if e := CheckLine(l); e != api.OK {
		return nil, e
	}
	turned := slices.Clone(l)
	slices.Reverse(turned)
	for i, p := range turned {
		turned[i].X = p.X.Neg()
	}
	return turned, api.OK
}

// Turn returns the vehicle in the other direction.
func Turn(v []Axle) ([]Axle, api.Errno) {
	if e := CheckVehicle(v); e != api.OK {
		return nil, e
	}
	turned := slices.Clone(v)
	slices.Reverse(turned)
	last := len(turned) - 1
	for i := range last { // each gap still stands at the other axle beside it
		turned[i].Gap = turned[i+1].Gap
	}
	turned[last].Gap = exact.Q{}
	return turned, api.OK
}
