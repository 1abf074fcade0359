package exact

import "math/bits"

// common returns the greatest common divisor; that of 0 and 0 is 0.
func common(x, y natural) natural {
	if x.compare(y) < 0 {
		x, y = y, x
	}
	for len(y) > 1 {
		x, y = reduce(x, y)
	}
	if len(y) == 0 {
		return x
	}
	if y.isOne() {
		return y
	}
	_, rest := x.over(y)
	if len(rest) == 0 {
		return y
	}
	return word(commonWord(y[0], rest[0]))
}

// reduce returns smaller numbers with the same common divisors, the greater
// one first; x is at least y, and y has at least two limbs.
func reduce(x, y natural) (natural, natural) {
	s := foresee(leading(x, y))
	switch {
	case s.b == 0: // the leading bits alone do not even tell the first quotient
		_, rest := x.over(y)
		return y, rest
	case s.odd:
		return difference(s.b, y, s.a, x), difference(s.c, x, s.d, y)
	}
	return difference(s.a, x, s.b, y), difference(s.d, y, s.c, x)
}

// steps sums up some steps of Euclid's algorithm: after an even number of them,
// x and y have become a x - b y and d y - c x, after an odd number the opposite.
type steps struct {
	a, b, c, d uint64
	odd        bool
}

// foresee makes as many steps as the leading bits of two numbers tell for sure.
// This is Lehmer's algorithm: it replaces long divisions by those of one limb.
func foresee(x, y uint64) steps {
	s := steps{a: 1, d: 1}
	for y != 0 {
		quotient, rest := x/y, x%y
		c, d := s.a+quotient*s.c, s.b+quotient*s.d
		// Collins' condition: the bits that follow can't change the quotient.
		if rest < d || y-rest < s.d+d {
			break
		}
		x, y = y, rest
		s = steps{s.c, s.d, c, d, !s.odd}
	}
	return s
}

// leading returns the highest 64 bits of x, and those of y at the same places;
// x has at least two limbs, and y at most as many.
func leading(x, y natural) (uint64, uint64) {
	n := len(x)
	shift := bits.LeadingZeros64(x[n-1])
	first := x[n-1]<<shift | x[n-2]>>(limbBits-shift)
	switch len(y) {
	case n:
		return first, y[n-1]<<shift | y[n-2]>>(limbBits-shift)
	case n - 1:
		return first, y[n-2] >> (limbBits - shift)
	}
	return first, 0
}

// difference returns f x - g y, which is neither negative nor longer than both.
func difference(f uint64, x natural, g uint64, y natural) natural {
	rest := make([]uint64, max(len(x), len(y)))
	addMultiple(rest, x, f)
	takeMultiple(rest, y, g)
	return trim(rest)
}
