package exact

// wide is the absolute value of a number of which a part does not fit into one limb.
type wide struct{ num, den natural }

// fraction returns a fraction in lowest terms.
func fraction(neg bool, num, den natural) Q {
	if len(num) == 0 {
		return Q{}
	}
	if len(num) == 1 && len(den) == 1 {
		return small(neg, num[0], den[0])
	}
	return Q{neg: neg, wide: &wide{num, den}}
}

// whole returns an integer.
func whole(neg bool, num natural) Q { return fraction(neg, num, natural{1}) }

// parts returns the numerator without its sign, and the denominator.
func (x Q) parts() (num, den natural) {
	if x.wide == nil {
		return word(x.top), word(x.bottom())
	}
	return x.wide.num, x.wide.den
}

// plusWide returns x + y.
func plusWide(x, y Q) Q {
	num1, den1 := x.parts()
	num2, den2 := y.parts()
	shared := common(den1, den2)
	rest1, rest2 := den1.without(shared), den2.without(shared)
	neg, sum := addSigned(x.neg, num1.times(rest2), y.neg, num2.times(rest1))
	excess := common(sum, shared)
	return fraction(neg, sum.without(excess), rest1.times(den2.without(excess)))
}

// timesWide returns x * y.
func timesWide(x, y Q) Q {
	num1, den1 := x.parts()
	num2, den2 := y.parts()
	first, second := common(num1, den2), common(num2, den1)
	num := num1.without(first).times(num2.without(second))
	den := den1.without(second).times(den2.without(first))
	return fraction(x.neg != y.neg, num, den)
}

// compareWide compares the absolute values of x and y.
func compareWide(x, y Q) int {
	num1, den1 := x.parts()
	num2, den2 := y.parts()
	return num1.times(den2).compare(num2.times(den1))
}

// addSigned adds two naturals with signs.
func addSigned(neg1 bool, x natural, neg2 bool, y natural) (bool, natural) {
	if neg1 == neg2 {
		return neg1, x.plus(y)
	}
	if x.compare(y) >= 0 {
		return neg1, x.minus(y)
	}
	return neg2, y.minus(x)
}
