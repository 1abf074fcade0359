package exact

import (
	"cmp"
	"math"
	"math/bits"
	"slices"
)

// limbBits is the number of bits of a limb.
const limbBits = 64

// natural is an integer that is not negative, as limbs: the lowest one first,
// and the highest one not 0. Limbs that are still worked on are a []uint64;
// those of a natural are not changed any more, so that naturals may share them.
type natural []uint64

// word returns a natural of at most one limb.
func word(x uint64) natural { return trim([]uint64{x}) }

// trim returns limbs without the zeros at their high end.
func trim(limbs []uint64) natural {
	n := len(limbs)
	for n > 0 && limbs[n-1] == 0 {
		n--
	}
	return limbs[:n:n]
}

// compare returns -1, 0 or 1 as x is below, at or above y.
func (x natural) compare(y natural) int {
	if len(x) != len(y) {
		return cmp.Compare(len(x), len(y))
	}
	for i := range len(x) {
		if high := len(x) - 1 - i; x[high] != y[high] {
			return cmp.Compare(x[high], y[high])
		}
	}
	return 0
}

// plus returns x + y.
func (x natural) plus(y natural) natural {
	if len(x) < len(y) {
		x, y = y, x
	}
	sum := make([]uint64, len(x)+1)
	copy(sum, x)
	addMultiple(sum, y, 1)
	return trim(sum)
}

// minus returns x - y, where y is at most x.
func (x natural) minus(y natural) natural {
	rest := slices.Clone(x)
	takeMultiple(rest, y, 1)
	return trim(rest)
}

// isOne reports whether x is 1. Denominators often are, and need no work then.
func (x natural) isOne() bool { return len(x) == 1 && x[0] == 1 }

// times returns x * y.
func (x natural) times(y natural) natural {
	if x.isOne() {
		return y
	}
	if y.isOne() {
		return x
	}
	product := make([]uint64, len(x)+len(y))
	for i := range len(x) {
		addMultiple(product[i:], y, x[i])
	}
	return trim(product)
}

// addMultiple adds factor * y to a sum of at least as many limbs; what does
// not fit there is lost.
func addMultiple(sum []uint64, y natural, factor uint64) {
	var carry, over1, over2 uint64
	for i := range len(y) {
		high, low := bits.Mul64(y[i], factor)
		low, over1 = bits.Add64(low, carry, 0)
		sum[i], over2 = bits.Add64(sum[i], low, 0)
		carry = high + over1 + over2
	}
	for i := len(y); carry != 0 && i < len(sum); i++ {
		sum[i], carry = bits.Add64(sum[i], carry, 0)
	}
}

// takeMultiple takes factor * y from a rest of at least as many limbs, and
// returns what it would have to borrow from a limb above them.
func takeMultiple(rest []uint64, y natural, factor uint64) (borrow uint64) {
	var over1, over2 uint64
	for i := range len(y) {
		high, low := bits.Mul64(y[i], factor)
		low, over1 = bits.Add64(low, borrow, 0)
		rest[i], over2 = bits.Sub64(rest[i], low, 0)
		borrow = high + over1 + over2
	}
	for i := len(y); borrow != 0 && i < len(rest); i++ {
		rest[i], borrow = bits.Sub64(rest[i], borrow, 0)
	}
	return borrow
}

// without returns x / y, where y is not 0 and divides x.
func (x natural) without(y natural) natural {
	if y.isOne() {
		return x
	}
	quotient, _ := x.over(y)
	return quotient
}

// over returns x / y rounded down and what remains, where y is not 0.
func (x natural) over(y natural) (quotient, rest natural) {
	if x.compare(y) < 0 {
		return nil, x
	}
	if len(y) == 1 {
		limbs := slices.Clone(x)
		last := divideByWord(limbs, y[0])
		return trim(limbs), word(last)
	}
	// Guesses of limbs are good only if the highest bit of the divisor is set.
	shift := bits.LeadingZeros64(y[len(y)-1])
	divisor := trim(shiftUp(y, shift))
	remains := shiftUp(x, shift)
	limbs := make([]uint64, len(remains)-len(divisor))
	for i := range len(limbs) {
		at := len(limbs) - 1 - i
		limbs[at] = nextLimb(remains[at:at+len(divisor)+1], divisor)
	}
	return trim(limbs), trim(shiftDown(remains, shift))
}

// nextLimb takes the greatest multiple of the divisor from what remains, and
// returns which one it is.
func nextLimb(remains []uint64, divisor natural) uint64 {
	limb := guessLimb(remains, divisor)
	if takeMultiple(remains, divisor, limb) != 0 {
		limb--
		addMultiple(remains, divisor, 1)
	}
	return limb
}

// guessLimb returns the limb of a quotient, or one more: three limbs of what
// remains and two of the divisor leave no greater doubt.
func guessLimb(remains []uint64, divisor natural) uint64 {
	n := len(divisor)
	first, second := divisor[n-1], divisor[n-2]
	if remains[n] >= first {
		return math.MaxUint64
	}
	guess, rest := bits.Div64(remains[n], remains[n-1], first)
	for {
		high, low := bits.Mul64(guess, second)
		if high < rest || high == rest && low <= remains[n-2] {
			return guess
		}
		guess--
		var over uint64
		if rest, over = bits.Add64(rest, first, 0); over != 0 {
			return guess
		}
	}
}

// divideByWord divides limbs in their place, and returns what remains.
func divideByWord(limbs []uint64, divisor uint64) uint64 {
	var rest uint64
	for i := range len(limbs) {
		at := len(limbs) - 1 - i
		limbs[at], rest = bits.Div64(rest, limbs[at], divisor)
	}
	return rest
}

// shiftUp returns x with all bits higher by shift, and one more limb for those
// that leave the highest one.
func shiftUp(x natural, shift int) []uint64 {
	shifted := make([]uint64, len(x)+1)
	for i := range len(x) {
		shifted[i] |= x[i] << shift
		shifted[i+1] = x[i] >> (limbBits - shift)
	}
	return shifted
}

// shiftDown returns limbs with all bits lower by shift.
func shiftDown(x []uint64, shift int) []uint64 {
	shifted := make([]uint64, len(x))
	for i := range len(x) {
		shifted[i] = x[i] >> shift
		if i > 0 {
			shifted[i-1] |= x[i] << (limbBits - shift)
		}
	}
	return shifted
}
