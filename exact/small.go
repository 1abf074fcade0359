package exact

import (
	"cmp"
	"math/bits"
)

// small returns a fraction of two limbs in lowest terms.
func small(neg bool, num, den uint64) Q {
	return Q{neg: neg && num != 0, top: num, less: den - 1}
}

// bottom returns the denominator of a number that is not wide.
func (x Q) bottom() uint64 { return x.less + 1 }

// plusSmall returns x + y, if no step on the way needs more than one limb.
func plusSmall(x, y Q) (Q, bool) {
	// Whatever sum and denominator have in common divides what the two
	// denominators have in common, so the factors stay small.
	shared := commonWord(x.bottom(), y.bottom())
	left, fits1 := timesWord(x.top, y.bottom()/shared)
	right, fits2 := timesWord(y.top, x.bottom()/shared)
	neg, sum, fits3 := addWords(x.neg, left, y.neg, right)
	excess := commonWord(sum, shared)
	den, fits4 := timesWord(x.bottom()/shared, y.bottom()/excess)
	return small(neg, sum/excess, den), fits1 && fits2 && fits3 && fits4
}

// timesSmall returns x * y, if it needs no more than one limb for each part.
func timesSmall(x, y Q) (Q, bool) {
	first := commonWord(x.top, y.bottom())
	second := commonWord(y.top, x.bottom())
	num, fits1 := timesWord(x.top/first, y.top/second)
	den, fits2 := timesWord(x.bottom()/second, y.bottom()/first)
	return small(x.neg != y.neg, num, den), fits1 && fits2
}

// compareSmall compares the absolute values of x and y.
func compareSmall(x, y Q) int {
	high1, low1 := bits.Mul64(x.top, y.bottom())
	high2, low2 := bits.Mul64(y.top, x.bottom())
	return cmp.Or(cmp.Compare(high1, high2), cmp.Compare(low1, low2))
}

// addWords adds two limbs with signs, and reports whether the sum is a limb.
func addWords(neg1 bool, x uint64, neg2 bool, y uint64) (neg bool, sum uint64, fits bool) {
	if neg1 == neg2 {
		sum, carry := bits.Add64(x, y, 0)
		return neg1, sum, carry == 0
	}
	if x >= y {
		return neg1, x - y, true
	}
	return neg2, y - x, true
}

// timesWord multiplies two limbs, and reports whether the product is a limb.
func timesWord(x, y uint64) (uint64, bool) {
	high, low := bits.Mul64(x, y)
	return low, high == 0
}

// commonWord returns the greatest common divisor; that of 0 and 0 is 0.
func commonWord(x, y uint64) uint64 {
	if x == 0 || y == 0 {
		return x | y
	}
	if x == 1 || y == 1 {
		return 1
	}
	twos := bits.TrailingZeros64(x | y)
	x >>= bits.TrailingZeros64(x)
	for y != 0 {
		y >>= bits.TrailingZeros64(y)
		if x > y {
			x, y = y, x
		}
		y -= x
	}
	return x << twos
}
