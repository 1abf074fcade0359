package exact_test

import (
	"math"
	"math/big"
	"math/rand"
	"strings"
	"testing"

	"voussoir/api"
	"voussoir/exact"
)

// num returns the number of a text that is valid.
func num(t *testing.T, s string) exact.Q {
	t.Helper()
	x, e := exact.Read(s)
	if e != api.OK {
		t.Fatalf("Read(%q): error %d", s, e)
	}
	return x
}

// rat returns a number as one of math/big.
func rat(t *testing.T, x exact.Q) *big.Rat {
	t.Helper()
	r, ok := new(big.Rat).SetString(x.Text())
	if !ok {
		t.Fatalf("not a number: %q", x.Text())
	}
	return r
}

// same checks that a number is the one that math/big found, by its only text.
func same(t *testing.T, what string, x exact.Q, want *big.Rat) {
	t.Helper()
	if x.Text() != want.RatString() {
		t.Fatalf("%s: %s, not %s", what, x.Text(), want.RatString())
	}
}

// zero checks that a result is the zero value.
func zero(t *testing.T, what string, x exact.Q) {
	t.Helper()
	if x.Sign() != 0 || x.Text() != "0" {
		t.Errorf("%s: %s, not 0", what, x.Text())
	}
}

// edges returns texts of numbers, among them those at the ends of integers of one and more limbs.
func edges() []string {
	return []string{
		"0", "1", "-1", "2", "-2", "7", "1/2", "-1/2", "-3/2", "2/3", "5/3", "22/7", "-22/7", "1/10", "999999999999/1000000007",
		"2147483647", "2147483648", "-2147483648", "4294967295", "4294967296", "1/4294967296",
		"9223372036854775807", "9223372036854775808", "-9223372036854775807", "-9223372036854775808", "-9223372036854775809",
		"18446744073709551614", "18446744073709551615", "18446744073709551616", "-18446744073709551615", "-18446744073709551616", "18446744073709551617",
		"1/18446744073709551615", "1/18446744073709551616", "-1/18446744073709551615", "-1/18446744073709551617",
		"18446744073709551615/18446744073709551614", "18446744073709551614/18446744073709551615", "-18446744073709551616/18446744073709551615",
		"9223372036854775807/9223372036854775808", "-9223372036854775808/9223372036854775807", "4294967296/4294967295",
		"10000000000000000000", "9999999999999999999", "1000000000000000000000000000000000000000000000000000000000/7",
		"340282366920938463463374607431768211455", "340282366920938463463374607431768211456", "-1/340282366920938463463374607431768211455",
		"340282366920938463463374607431768211457/340282366920938463463374607431768211456",
	}
}

// samples returns numbers of many sizes, always the same ones.
func samples(t *testing.T, random int) []exact.Q {
	var list []exact.Q
	for _, s := range edges() {
		list = append(list, num(t, s))
	}
	r := rand.New(rand.NewSource(11))
	for range random {
		a := new(big.Int).Rand(r, new(big.Int).Lsh(big.NewInt(1), uint(1+r.Intn(300))))
		b := new(big.Int).Rand(r, new(big.Int).Lsh(big.NewInt(1), uint(1+r.Intn(300))))
		x := new(big.Rat).SetFrac(a, b.Add(b, big.NewInt(1)))
		if r.Intn(2) == 0 {
			x.Neg(x)
		}
		list = append(list, num(t, x.RatString()))
	}
	return list
}

func TestP1_1IntAndOf(t *testing.T) {
	integers := []int64{0, 1, -1, 6, -4, 10, 1 << 31, -1 << 31, 1<<62 + 1, math.MaxInt64, math.MaxInt64 - 1, math.MinInt64, math.MinInt64 + 1}
	for _, a := range integers {
		same(t, "Int", exact.Int(a), new(big.Rat).SetInt64(a))
		for _, b := range integers {
			x, e := exact.Of(a, b)
			if b == 0 {
				if e != api.ErrZero {
					t.Errorf("Of(%d, 0): error %d", a, e)
				}
				zero(t, "Of with an error", x)
				continue
			}
			if e != api.OK {
				t.Errorf("Of(%d, %d): error %d", a, b, e)
			}
			same(t, "Of", x, new(big.Rat).SetFrac(big.NewInt(a), big.NewInt(b)))
		}
	}
	if x, _ := exact.Of(6, -4); x.Text() != "-3/2" {
		t.Error("Of(6, -4)", x.Text())
	}
}

func TestP1_2TextsThatAreRead(t *testing.T) {
	if got := (exact.Q{}).Text(); got != "0" {
		t.Errorf("the zero value is %q", got)
	}
	most := "-" + strings.Repeat("9", 1999) + "/1" + strings.Repeat("0", 1998)
	list := append(edges(), most, strings.Repeat("8", 4000), "-"+strings.Repeat("3", 3999), "1/"+strings.Repeat("7", 3998))
	for n := 1; n < 90; n++ { // lengths around those of whole groups of digits
		nines, power := strings.Repeat("9", n), "1"+strings.Repeat("0", n)
		list = append(list, nines, power, "-"+nines, "-1/"+power, power+"/"+nines)
		if n > 1 {
			list = append(list, nines+"/"+power)
		}
	}
	for _, s := range list {
		if x, e := exact.Read(s); e != api.OK || x.Text() != s {
			t.Errorf("Read(%q): %q, error %d", s, x.Text(), e)
		}
	}
}

func TestP1_2TextsThatHaveNotTheForm(t *testing.T) {
	long := strings.Repeat("7", 300)
	for _, s := range []string{
		"", "-", "/", "-/", "1/", "/1", "-/2", "1/-2", "-1/-2", "+1", "1/+2", "--1", "-0", "00", "007", "-01", "1/02", "01/2",
		"4/2", "6/4", "-6/4", "7/1", "0/1", "0/5", "-0/5", "1/0", "0/0", "1/00", "1/2/3", "1//2", "0x1", "1e3", "1.5", "1_000", ".",
		" 1", "1 ", "1 /2", "1/ 2", "\t1", "1\n", "1\x00", "a", "1a", "a1", "é", "１", "−1", "½", "\xff",
		"18446744073709551616/1", "18446744073709551616/2", "018446744073709551616", long + "/" + long, long + "/7", "0" + long, long + "x", long + "/1x", long + "-", long + "+" + long,
		strings.Repeat("0", 4000),
	} {
		x, e := exact.Read(s)
		if e != api.ErrForm {
			t.Errorf("Read(%q): %q, error %d", s, x.Text(), e)
		}
		zero(t, "Read with an error", x)
	}
}

func TestP1_2TextsThatAreTooLong(t *testing.T) {
	for _, s := range []string{strings.Repeat("1", 4001), strings.Repeat("x", 4001), strings.Repeat("0", 5000), "1/" + strings.Repeat("3", 3999)} {
		x, e := exact.Read(s)
		if e != api.ErrLong {
			t.Errorf("Read of %d bytes: error %d", len(s), e)
		}
		zero(t, "Read with an error", x)
	}
	if _, e := exact.Read(strings.Repeat("x", 4000)); e != api.ErrForm {
		t.Errorf("Read of 4000 wrong bytes: error %d", e)
	}
}

// TestP1_2LongerTexts checks that a text may be longer than those that Read accepts.
func TestP1_2LongerTexts(t *testing.T) {
	x := num(t, strings.Repeat("9", 4000))
	want := rat(t, x)
	for range 3 {
		x = x.Times(x)
		want.Mul(want, want)
	}
	same(t, "a number of 32000 digits", x, want)
	y, e := exact.Int(-1).Over(x)
	if e != api.OK || y.Text() != "-1/"+x.Text() {
		t.Error("its reciprocal", e, len(y.Text()))
	}
}

func TestP1_3SumsAndProducts(t *testing.T) {
	list := samples(t, 60)
	for _, x := range list {
		a := rat(t, x)
		same(t, "Neg of "+x.Text(), x.Neg(), new(big.Rat).Neg(a))
		same(t, "Abs of "+x.Text(), x.Abs(), new(big.Rat).Abs(a))
		for _, y := range list {
			b := rat(t, y)
			pair := x.Text() + " and " + y.Text()
			same(t, "Plus of "+pair, x.Plus(y), new(big.Rat).Add(a, b))
			same(t, "Minus of "+pair, x.Minus(y), new(big.Rat).Sub(a, b))
			same(t, "Times of "+pair, x.Times(y), new(big.Rat).Mul(a, b))
			quotient, e := x.Over(y)
			if b.Sign() == 0 {
				if e != api.ErrZero {
					t.Errorf("Over of %s: error %d", pair, e)
				}
				zero(t, "Over with an error", quotient)
				continue
			}
			if e != api.OK {
				t.Errorf("Over of %s: error %d", pair, e)
			}
			same(t, "Over of "+pair, quotient, new(big.Rat).Quo(a, b))
		}
	}
}

// TestP1_3WholeLimbs adds and multiplies words at random, where sums and products are just about one limb.
func TestP1_3WholeLimbs(t *testing.T) {
	r := rand.New(rand.NewSource(12))
	some := func() exact.Q {
		x, _ := exact.Of(r.Int63()>>r.Intn(63), 1+r.Int63()>>r.Intn(63))
		if r.Intn(2) == 0 {
			return x.Neg()
		}
		return x
	}
	for range 20000 {
		x, y := some(), some()
		a, b := rat(t, x), rat(t, y)
		pair := x.Text() + " and " + y.Text()
		same(t, "Plus of "+pair, x.Plus(y), new(big.Rat).Add(a, b))
		same(t, "Minus of "+pair, x.Minus(y), new(big.Rat).Sub(a, b))
		same(t, "Times of "+pair, x.Times(y), new(big.Rat).Mul(a, b))
		if x.Cmp(y) != a.Cmp(b) {
			t.Fatalf("Cmp of %s: %d", pair, x.Cmp(y))
		}
	}
}

// TestP1_3BackToSmall checks that a number is the same one whichever way it came about.
func TestP1_3BackToSmall(t *testing.T) {
	great := num(t, "340282366920938463463374607431768211457/18446744073709551629")
	for _, n := range []int64{0, 1, -1, 12, math.MaxInt64, math.MinInt64} {
		x := exact.Int(n).Plus(great).Minus(great)
		same(t, "Plus and Minus", x, new(big.Rat).SetInt64(n))
		y, _ := exact.Int(n).Times(great).Over(great)
		same(t, "Times and Over", y, new(big.Rat).SetInt64(n))
		for _, z := range []exact.Q{x, y} {
			m, ok := z.Int64()
			if m != n || !ok || z.Cmp(exact.Int(n)) != 0 || exact.Int(n).Cmp(z) != 0 || z.Sign() != exact.Int(n).Sign() {
				t.Errorf("%d came back as %d, %v", n, m, ok)
			}
		}
	}
}

func TestP1_4CmpAndSign(t *testing.T) {
	list := samples(t, 60)
	for _, x := range list {
		a := rat(t, x)
		if x.Sign() != a.Sign() || x.Cmp(exact.Q{}) != a.Sign() || (exact.Q{}).Cmp(x) != -a.Sign() {
			t.Errorf("Sign of %s: %d", x.Text(), x.Sign())
		}
		for _, y := range list {
			if got := x.Cmp(y); got != a.Cmp(rat(t, y)) {
				t.Errorf("Cmp of %s and %s: %d", x.Text(), y.Text(), got)
			}
		}
	}
}

func TestP1_5FloorAndCeil(t *testing.T) {
	for _, c := range [][3]string{
		{"-3/2", "-2", "-1"}, {"3/2", "1", "2"}, {"0", "0", "0"}, {"5", "5", "5"}, {"-5", "-5", "-5"}, {"1/3", "0", "1"}, {"-1/3", "-1", "0"},
		{"1/340282366920938463463374607431768211455", "0", "1"}, {"-1/340282366920938463463374607431768211455", "-1", "0"},
		{"36893488147419103231/2", "18446744073709551615", "18446744073709551616"}, {"-36893488147419103231/2", "-18446744073709551616", "-18446744073709551615"},
	} {
		x := num(t, c[0])
		if x.Floor().Text() != c[1] || x.Ceil().Text() != c[2] {
			t.Errorf("%s: Floor %s, Ceil %s", c[0], x.Floor().Text(), x.Ceil().Text())
		}
	}
	for _, x := range samples(t, 200) {
		a := rat(t, x)
		low := new(big.Int).Div(a.Num(), a.Denom()) // rounded down, as the denominator is positive
		high := new(big.Int).Neg(new(big.Int).Div(new(big.Int).Neg(a.Num()), a.Denom()))
		same(t, "Floor of "+x.Text(), x.Floor(), new(big.Rat).SetInt(low))
		same(t, "Ceil of "+x.Text(), x.Ceil(), new(big.Rat).SetInt(high))
	}
}

func TestP1_5Int64(t *testing.T) {
	for _, x := range samples(t, 60) {
		a := rat(t, x)
		fits := a.IsInt() && a.Num().IsInt64()
		want := int64(0)
		if fits {
			want = a.Num().Int64()
		}
		if n, ok := x.Int64(); n != want || ok != fits {
			t.Errorf("Int64 of %s: %d, %v", x.Text(), n, ok)
		}
	}
}

func TestP1_5Parts(t *testing.T) {
	for _, x := range append(samples(t, 60), exact.Q{}) {
		a := rat(t, x)
		above, below := x.Parts()
		same(t, "numerator of "+x.Text(), above, new(big.Rat).SetInt(a.Num()))
		same(t, "denominator of "+x.Text(), below, new(big.Rat).SetInt(a.Denom()))
		if below.Sign() != 1 {
			t.Errorf("denominator of %s: %s", x.Text(), below.Text())
		}
	}
}

func TestP1_11SumsAndProducts(t *testing.T) {
	equal := func(what string, x, y exact.Q) {
		t.Helper()
		if x.Text() != y.Text() || x.Cmp(y) != 0 {
			t.Fatalf("%s: %s and %s", what, x.Text(), y.Text())
		}
	}
	list := samples(t, 30)
	r := rand.New(rand.NewSource(13))
	for range 8000 {
		x, y, z := list[r.Intn(len(list))], list[r.Intn(len(list))], list[r.Intn(len(list))]
		equal("order of a sum", x.Plus(y), y.Plus(x))
		equal("order of a product", x.Times(y), y.Times(x))
		equal("grouping of a sum", x.Plus(y).Plus(z), x.Plus(y.Plus(z)))
		equal("grouping of a product", x.Times(y).Times(z), x.Times(y.Times(z)))
		equal("products over sums", x.Times(y.Plus(z)), x.Times(y).Plus(x.Times(z)))
		equal("a number and its opposite", x.Plus(x.Neg()), exact.Q{})
		if x.Sign() != 0 {
			reciprocal, e := exact.Int(1).Over(x)
			if e != api.OK {
				t.Fatalf("reciprocal of %s: error %d", x.Text(), e)
			}
			equal("a number and its reciprocal", x.Times(reciprocal), exact.Int(1))
		}
	}
}

func TestP1_11Order(t *testing.T) {
	list := samples(t, 30)
	r := rand.New(rand.NewSource(14))
	for range 8000 {
		x, y, z := list[r.Intn(len(list))], list[r.Intn(len(list))], list[r.Intn(len(list))]
		order := x.Cmp(y)
		if y.Cmp(x) != -order || (order == 0) != (x.Text() == y.Text()) {
			t.Fatalf("%s and %s: %d and %d", x.Text(), y.Text(), order, y.Cmp(x))
		}
		if order <= 0 && y.Cmp(z) <= 0 && x.Cmp(z) > 0 {
			t.Fatalf("%s, %s, %s are not in order", x.Text(), y.Text(), z.Text())
		}
		if x.Plus(z).Cmp(y.Plus(z)) != order || x.Minus(y).Sign() != order {
			t.Fatalf("sums of %s and %s with %s", x.Text(), y.Text(), z.Text())
		}
		if z.Sign() > 0 && x.Times(z).Cmp(y.Times(z)) != order {
			t.Fatalf("products of %s and %s with %s", x.Text(), y.Text(), z.Text())
		}
	}
}
