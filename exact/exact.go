// Package exact is chapter 1: rational numbers of any size, and spans. See shared/doc/01-exact.md.
package exact

import "voussoir/api"

// Q is a rational number; the zero value is 0.
//
// Numerator and denominator are in lowest terms. They are in top and less as
// long as each of them fits into one limb: most numbers do, and then need no
// memory beside the Q itself. What wide points to never changes once it is
// made, so that a Q can be copied like an integer.
type Q struct {
	neg  bool
	top  uint64 // the absolute value of the numerator
	less uint64 // the denominator less 1, so that the zero value is 0/1
	wide *wide  // instead of top and less, if one of them does not fit
}

// Int returns the integer n.
func Int(n int64) Q {
	if n < 0 {
		return small(true, -uint64(n), 1)
	}
	return small(false, uint64(n), 1)
}

// Of returns the fraction a / b.
func Of(a, b int64) (Q, api.Errno) { return Int(a).Over(Int(b)) }

// Plus returns x + y.
func (x Q) Plus(y Q) Q {
	if x.wide == nil && y.wide == nil {
		if sum, fits := plusSmall(x, y); fits {
			return sum
		}
	}
	return plusWide(x, y)
}

// Minus returns x - y.
func (x Q) Minus(y Q) Q { return x.Plus(y.Neg()) }

// Times returns x * y.
func (x Q) Times(y Q) Q {
	if x.wide == nil && y.wide == nil {
		if product, fits := timesSmall(x, y); fits {
			return product
		}
	}
	return timesWide(x, y)
}

// Over returns x / y.
func (x Q) Over(y Q) (Q, api.Errno) {
	if y.Sign() == 0 {
		return Q{}, api.ErrZero
	}
	return x.Times(y.reciprocal()), api.OK
}

// Neg returns -x.
func (x Q) Neg() Q {
	x.neg = x.Sign() > 0
	return x
}

// Abs returns the absolute value of x.
func (x Q) Abs() Q {
	x.neg = false
	return x
}

// Cmp returns -1, 0 or 1 as x is below, at or above y.
func (x Q) Cmp(y Q) int {
	if x.neg != y.neg {
		return x.side()
	}
	if x.wide == nil && y.wide == nil {
		return x.side() * compareSmall(x, y)
	}
	return x.side() * compareWide(x, y)
}

// Sign returns -1, 0 or 1 as x is below, at or above 0.
func (x Q) Sign() int {
	if x.wide == nil && x.top == 0 {
		return 0
	}
	return x.side()
}

// Floor returns the greatest integer that is at most x.
func (x Q) Floor() Q {
	near, rest := x.cut()
	if rest && x.neg {
		return near.Minus(Int(1))
	}
	return near
}

// Ceil returns the least integer that is at least x.
func (x Q) Ceil() Q {
	near, rest := x.cut()
	if rest && !x.neg {
		return near.Plus(Int(1))
	}
	return near
}

// Int64 returns x as an int64, if it is one.
func (x Q) Int64() (int64, bool) {
	const beyond = 1 << 63
	switch {
	case x.wide != nil || x.less != 0:
		return 0, false
	case x.neg && x.top <= beyond:
		return -int64(x.top), true
	case !x.neg && x.top < beyond:
		return int64(x.top), true
	}
	return 0, false
}

// Parts returns the numerator and the denominator of x in lowest terms.
func (x Q) Parts() (num, den Q) {
	if x.wide == nil {
		return small(x.neg, x.top, 1), small(false, x.bottom(), 1)
	}
	return whole(x.neg, x.wide.num), whole(false, x.wide.den)
}

// side returns -1 for negative numbers, otherwise 1.
func (x Q) side() int {
	if x.neg {
		return -1
	}
	return 1
}

// cut returns x rounded towards 0, and whether that is another number.
func (x Q) cut() (Q, bool) {
	if x.wide == nil {
		return small(x.neg, x.top/x.bottom(), 1), x.top%x.bottom() != 0
	}
	quotient, rest := x.wide.num.over(x.wide.den)
	return whole(x.neg, quotient), len(rest) != 0
}

// reciprocal returns 1 / x, where x is not 0.
func (x Q) reciprocal() Q {
	if x.wide == nil {
		return small(x.neg, x.bottom(), x.top)
	}
	return fraction(x.neg, x.wide.den, x.wide.num)
}
