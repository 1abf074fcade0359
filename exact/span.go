package exact

import "voussoir/api"

// Span is all numbers from one end to the other one.
type Span struct{ Low, High Q }

// Between returns the span with two ends.
func Between(a, b Q) Span { return around(a, b) }

// Has reports whether a span has a number.
func (s Span) Has(x Q) bool {
	s = s.sorted()
	return s.Low.Cmp(x) <= 0 && x.Cmp(s.High) <= 0
}

// Plus returns the span of all sums.
func (s Span) Plus(t Span) Span { return s.with(t, Q.Plus) }

// Minus returns the span of all differences.
func (s Span) Minus(t Span) Span { return s.with(t, Q.Minus) }

// Times returns the span of all products.
func (s Span) Times(t Span) Span { return s.with(t, Q.Times) }

// Over returns the span of all quotients.
func (s Span) Over(t Span) (Span, api.Errno) {
	if t.Has(Q{}) {
		return Span{}, api.ErrZero
	}
	return s.with(t, func(x, y Q) Q { return x.Times(y.reciprocal()) }), api.OK
}

// Square returns the span of all squares.
func (s Span) Square() Span {
	return s.under(func(x Q) Q { return x.Times(x) }, Q{})
}

// Abs returns the span of all absolute values.
func (s Span) Abs() Span { return s.under(Q.Abs, Q{}) }

// Hull returns the least span that has two spans.
func (s Span) Hull(t Span) Span { return around(s.Low, s.High, t.Low, t.High) }

// Meet returns the span that two spans have in common.
func (s Span) Meet(t Span) (Span, bool) {
	s, t = s.sorted(), t.sorted()
	low, high := around(s.Low, t.Low).High, around(s.High, t.High).Low
	if low.Cmp(high) > 0 {
		return Span{}, false
	}
	return Span{low, high}, true
}

// Out returns the least span with ends on a grid that has a span.
func (s Span) Out(grid Q) (Span, api.Errno) {
	if grid.Sign() <= 0 {
		return Span{}, api.ErrRange
	}
	s = s.sorted()
	steps := grid.reciprocal()
	low, high := s.Low.Times(steps).Floor(), s.High.Times(steps).Ceil()
	return Span{low.Times(grid), high.Times(grid)}, api.OK
}

// Form returns the span of all values of a linear form on a box.
func Form(coefficients []Q, box []Span) (Span, api.Errno) {
	if len(coefficients) > api.MaxForm {
		return Span{}, api.ErrLong
	}
	if len(box) != len(coefficients) {
		return Span{}, api.ErrArg
	}
	var sum Span
	for i, c := range coefficients {
		part := box[i].under(c.Times)
		sum = Span{sum.Low.Plus(part.Low), sum.High.Plus(part.High)}
	}
	return sum, api.OK
}

// Quadratic returns the span of all values of a x x + b x + c on a span.
func Quadratic(a, b, c Q, s Span) Span {
	value := func(x Q) Q { return a.Times(x).Plus(b).Times(x).Plus(c) }
	if a.Sign() == 0 {
		return s.under(value)
	}
	return s.under(value, b.Neg().Times(a.Plus(a).reciprocal()))
}

// around returns the least span that has all of the numbers.
func around(first Q, others ...Q) Span {
	s := Span{first, first}
	for _, x := range others {
		if x.Cmp(s.Low) < 0 {
			s.Low = x
		}
		if x.Cmp(s.High) > 0 {
			s.High = x
		}
	}
	return s
}

// sorted returns the same span with the lower end first.
func (s Span) sorted() Span { return around(s.Low, s.High) }

// with returns the span of the results of an operation that, for any number on
// one side, only grows or only falls on the other: its ends come from ends.
func (s Span) with(t Span, operation func(x, y Q) Q) Span {
	return around(
		operation(s.Low, t.Low), operation(s.Low, t.High),
		operation(s.High, t.Low), operation(s.High, t.High))
}

// under returns the span of the values of a function that only grows or only
// falls but for its turns, from one to the next.
func (s Span) under(value func(Q) Q, turns ...Q) Span {
	values := []Q{value(s.High)}
	for _, x := range turns {
		if s.Has(x) {
			values = append(values, value(x))
		}
	}
	return around(value(s.Low), values...)
}
