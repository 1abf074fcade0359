package linear

import "voussoir/exact"

// amount is a number, and the nudge that it gets where each row leaves a little
// more than it says: its own multiple of something that is smaller than any
// positive number. So a nudge decides only between equal numbers. It takes apart
// rows that end at one point, where a table would search for long, and it
// changes no answer: a point that keeps rows keeps them with nudges too, and
// the point of a table keeps them without nudges too, as no number is negative.
type amount struct{ number, nudge exact.Q }

// times returns a multiple of an amount.
func (a amount) times(x exact.Q) amount {
	return amount{a.number.Times(x), a.nudge.Times(x)}
}

// compare returns -1, 0 or 1 as a is below, at or above b.
func (a amount) compare(b amount) int {
	if order := a.number.Cmp(b.number); order != 0 {
		return order
	}
	return a.nudge.Cmp(b.nudge)
}

// isNegative reports whether a is below 0.
func (a amount) isNegative() bool { return a.compare(amount{}) < 0 }
