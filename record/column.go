package record

import (
	"slices"

	"voussoir/api"
)

// column is an attribute that is asked for, and its values in cells, of which no test tells one value from another: those of a choice one by one, those of a count from each start to the next one.
type column struct {
	api.Attribute
	starts []int // of a choice the places of its values
}

// columnOf returns the column of an attribute, with as many cells as the leaves need.
func columnOf(a api.Attribute, leaves []api.Expr) column {
	c := column{Attribute: a}
	if len(a.Values) > 0 {
		for place := range a.Values {
			c.starts = append(c.starts, place)
		}
		return c
	}
	c.starts = []int{a.Low}
	for _, x := range leaves {
		if x.Attribute == a.Name {
			c.starts = append(c.starts, x.Low, x.High+1)
		}
	}
	isBehind := func(start int) bool { return start > a.High }
	c.starts = slices.DeleteFunc(ascending(c.starts), isBehind)
	return c
}

// isIn reports whether a value is one of those that a leaf allows.
func (c column) isIn(value int, leaf api.Expr) bool {
	if len(c.Values) > 0 {
		return slices.Contains(leaf.Values, c.Values[value])
	}
	return isFrom(leaf.Low, value, leaf.High)
}

// possible returns the numbers of the cells that have a possible value.
func (c column) possible(k api.Knowledge) []int {
	var out []int
	for cell := range c.starts {
		if c.isPossible(cell, k) {
			out = append(out, cell)
		}
	}
	return out
}

// isPossible reports whether a cell has a possible value.
func (c column) isPossible(cell int, k api.Knowledge) bool {
	if len(c.Values) > 0 {
		return slices.Contains(k.Values, c.Values[cell])
	}
	return c.starts[cell] <= k.High && k.Low <= c.end(cell)
}

// end returns the last value of a cell of a count.
func (c column) end(cell int) int {
	if cell+1 < len(c.starts) {
		return c.starts[cell+1] - 1
	}
	return c.High
}
