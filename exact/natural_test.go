package exact

import (
	"math"
	"math/big"
	"math/rand"
	"testing"
)

// bigOf returns a natural as an integer of math/big, and checks its form.
func bigOf(t *testing.T, x natural) *big.Int {
	t.Helper()
	if len(x) > 0 && x[len(x)-1] == 0 {
		t.Fatalf("the highest limb of %x is 0", []uint64(x))
	}
	sum := new(big.Int)
	for i := len(x) - 1; i >= 0; i-- {
		sum.Lsh(sum, limbBits)
		sum.Or(sum, new(big.Int).SetUint64(x[i]))
	}
	return sum
}

// someNatural returns a natural of at most limbs limbs, many of which lie at the ends of their range.
func someNatural(r *rand.Rand, limbs int) natural {
	x := make([]uint64, r.Intn(limbs+1))
	for i := range x {
		switch r.Intn(6) {
		case 0:
			x[i] = 0
		case 1:
			x[i] = math.MaxUint64
		case 2:
			x[i] = 1 << 63
		case 3:
			x[i] = uint64(r.Intn(3))
		default:
			x[i] = r.Uint64() >> r.Intn(64)
		}
	}
	return trim(x)
}

func TestNaturalsAgainstBig(t *testing.T) {
	r := rand.New(rand.NewSource(1))
	for range 60000 {
		x, y := someNatural(r, 7), someNatural(r, 5)
		a, b := bigOf(t, x), bigOf(t, y)
		if x.compare(y) != a.Cmp(b) || y.compare(x) != b.Cmp(a) {
			t.Fatalf("compare %v %v: %d", a, b, x.compare(y))
		}
		if got := bigOf(t, x.plus(y)); got.Cmp(new(big.Int).Add(a, b)) != 0 {
			t.Fatalf("%v + %v = %v", a, b, got)
		}
		if got := bigOf(t, x.times(y)); got.Cmp(new(big.Int).Mul(a, b)) != 0 {
			t.Fatalf("%v * %v = %v", a, b, got)
		}
		if x.compare(y) >= 0 {
			if got := bigOf(t, x.minus(y)); got.Cmp(new(big.Int).Sub(a, b)) != 0 {
				t.Fatalf("%v - %v = %v", a, b, got)
			}
		}
		checkDivision(t, x, y)
		if x.text() != a.String() {
			t.Fatalf("text of %v: %s", a, x.text())
		}
	}
}

// checkDivision compares a division, if it is one, with that of math/big.
func checkDivision(t *testing.T, x, y natural) {
	t.Helper()
	if len(y) == 0 {
		return
	}
	quotient, rest := x.over(y)
	a, b := new(big.Int).QuoRem(bigOf(t, x), bigOf(t, y), new(big.Int))
	if bigOf(t, quotient).Cmp(a) != 0 || bigOf(t, rest).Cmp(b) != 0 {
		t.Fatalf("%x over %x: %x, %x", []uint64(x), []uint64(y), []uint64(quotient), []uint64(rest))
	}
}

// TestDivisionNearMultiples divides numbers just below, at and above multiples: there the guess of a limb is often one too great.
func TestDivisionNearMultiples(t *testing.T) {
	r := rand.New(rand.NewSource(2))
	for range 60000 {
		y, quotient := someNatural(r, 5), someNatural(r, 4)
		x := y.times(quotient)
		checkDivision(t, x, y)
		checkDivision(t, x.plus(word(1)), y)
		if len(x) > 0 {
			checkDivision(t, x.minus(word(1)), y)
		}
	}
	// The leading limbs of both are the same, and the guess is the greatest limb.
	checkDivision(t, natural{0, 0, 1 << 63}, natural{1, 1 << 63})
	checkDivision(t, natural{3, 0, 0, 1 << 63}, natural{1, 0, 1 << 63})
	// The guess has to be taken back after the subtraction.
	checkDivision(t, natural{0, 0, 1 << 63, math.MaxInt64}, natural{1, 0, 1 << 63})
	checkDivision(t, natural{3, 0, 1 << 63}, natural{1, 0, 1 << 61})
}

func TestCommonDivisor(t *testing.T) {
	r := rand.New(rand.NewSource(3))
	for range 20000 {
		shared := someNatural(r, 4)
		x, y := someNatural(r, 9).times(shared), someNatural(r, 1+r.Intn(9)).times(shared)
		want := new(big.Int).GCD(nil, nil, bigOf(t, x), bigOf(t, y))
		if got := bigOf(t, common(x, y)); got.Cmp(want) != 0 {
			t.Fatalf("common divisor of %x and %x: %v, not %v", []uint64(x), []uint64(y), got, want)
		}
	}
}

// TestCommonDivisorOfNeighbours follows numbers whose quotients are all 1, which take the most steps.
func TestCommonDivisorOfNeighbours(t *testing.T) {
	x, y := word(1), word(1)
	for i := range 1500 {
		if got := common(x, y); got.compare(word(1)) != 0 {
			t.Fatalf("common divisor of the Fibonacci numbers at %d: %v", i, got)
		}
		x, y = y, x.plus(y)
	}
}

func TestNaturalsAreNotChanged(t *testing.T) {
	r := rand.New(rand.NewSource(4))
	for range 5000 {
		x, y := someNatural(r, 6), someNatural(r, 6)
		a, b := bigOf(t, x), bigOf(t, y)
		x.plus(y)
		x.times(y)
		x.compare(y)
		common(x, y)
		x.text()
		if len(y) > 0 {
			x.over(y)
		}
		if bigOf(t, x).Cmp(a) != 0 || bigOf(t, y).Cmp(b) != 0 {
			t.Fatalf("%v, %v became %v, %v", a, b, bigOf(t, x), bigOf(t, y))
		}
	}
}
