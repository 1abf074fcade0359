package exact_test

import (
	"math/rand"
	"testing"

	"voussoir/api"
	"voussoir/exact"
)

// span returns the span with two integers as its ends, in their order.
func span(low, high int64) exact.Span { return exact.Span{Low: exact.Int(low), High: exact.Int(high)} }

// ends checks the ends of a span by their texts.
func ends(t *testing.T, what string, s exact.Span, low, high string) {
	t.Helper()
	if s.Low.Text() != low || s.High.Text() != high {
		t.Errorf("%s: %s to %s, not %s to %s", what, s.Low.Text(), s.High.Text(), low, high)
	}
}

// equal checks that two spans have the same ends.
func equal(t *testing.T, what string, s, want exact.Span) {
	t.Helper()
	ends(t, what, s, want.Low.Text(), want.High.Text())
}

// none checks that a span is the zero value.
func none(t *testing.T, what string, s exact.Span) {
	t.Helper()
	ends(t, what, s, "0", "0")
}

// turned returns a span with its ends exchanged.
func turned(s exact.Span) exact.Span { return exact.Span{Low: s.High, High: s.Low} }

// over returns a quotient.
func over(t *testing.T, x, y exact.Q) exact.Q {
	t.Helper()
	z, e := x.Over(y)
	if e != api.OK {
		t.Fatalf("%s over %s: error %d", x.Text(), y.Text(), e)
	}
	return z
}

// someNumber returns a number near 0, often an integer, and now and then a very long one.
func someNumber(r *rand.Rand) exact.Q {
	x, _ := exact.Of(int64(r.Intn(13)-6), int64(1+r.Intn(3)))
	switch r.Intn(12) {
	case 0:
		tiny, _ := exact.Of(1, r.Int63()+1)
		return x.Plus(tiny.Times(tiny))
	case 1:
		return x.Times(exact.Int(r.Int63())).Times(exact.Int(r.Int63()))
	}
	return x
}

// someSpan returns a span with its lower end first.
func someSpan(r *rand.Rand) exact.Span { return exact.Between(someNumber(r), someNumber(r)) }

// inside returns some numbers of a span: its ends, numbers between them, and 0 if it has it.
func inside(t *testing.T, r *rand.Rand, s exact.Span) []exact.Q {
	list := []exact.Q{s.Low, s.High}
	for range 3 {
		part, _ := exact.Of(int64(r.Intn(8)), 7)
		list = append(list, s.Low.Plus(s.High.Minus(s.Low).Times(part)))
	}
	if s.Low.Sign() <= 0 && s.High.Sign() >= 0 {
		list = append(list, exact.Q{})
	}
	for _, x := range list {
		if x.Cmp(s.Low) < 0 || x.Cmp(s.High) > 0 {
			t.Fatalf("%s is not from %s to %s", x.Text(), s.Low.Text(), s.High.Text())
		}
	}
	return list
}

// within checks that a span has some values, and that both of its ends are among them.
func within(t *testing.T, what string, s exact.Span, values []exact.Q) {
	t.Helper()
	low, high := false, false
	for _, x := range values {
		if x.Cmp(s.Low) < 0 || x.Cmp(s.High) > 0 {
			t.Fatalf("%s: %s is not from %s to %s", what, x.Text(), s.Low.Text(), s.High.Text())
		}
		low, high = low || x.Cmp(s.Low) == 0, high || x.Cmp(s.High) == 0
	}
	if !low || !high {
		t.Fatalf("%s: an end of %s to %s is no result", what, s.Low.Text(), s.High.Text())
	}
}

// narrower checks that one span has all numbers of another one.
func narrower(t *testing.T, what string, narrow, wide exact.Span) {
	t.Helper()
	if narrow.Low.Cmp(wide.Low) < 0 || narrow.High.Cmp(wide.High) > 0 {
		t.Fatalf("%s: %s to %s is not within %s to %s", what, narrow.Low.Text(), narrow.High.Text(), wide.Low.Text(), wide.High.Text())
	}
}

// pair is an operation with two spans, and what it does to numbers.
type pair struct {
	name    string
	spans   func(s, t exact.Span) exact.Span
	numbers func(x, y exact.Q) exact.Q
}

// pairsFor returns the operations that are possible with a second span.
func pairsFor(t *testing.T, second exact.Span) []pair {
	list := []pair{
		{"Plus", exact.Span.Plus, exact.Q.Plus},
		{"Minus", exact.Span.Minus, exact.Q.Minus},
		{"Times", exact.Span.Times, exact.Q.Times},
	}
	if second.Low.Sign() <= 0 && second.High.Sign() >= 0 {
		return list
	}
	quotient := func(s, u exact.Span) exact.Span {
		z, e := s.Over(u)
		if e != api.OK {
			t.Fatalf("Over %s to %s: error %d", u.Low.Text(), u.High.Text(), e)
		}
		return z
	}
	return append(list, pair{"Over", quotient, func(x, y exact.Q) exact.Q { return over(t, x, y) }})
}

func TestP1_6BetweenAndHas(t *testing.T) {
	third, half := num(t, "1/3"), num(t, "1/2")
	ends(t, "Between in order", exact.Between(third, half), "1/3", "1/2")
	ends(t, "Between out of order", exact.Between(half, third), "1/3", "1/2")
	ends(t, "Between of a number", exact.Between(half, half), "1/2", "1/2")
	ends(t, "the zero value", exact.Span{}, "0", "0")
	for _, s := range []exact.Span{{Low: third, High: half}, {Low: half, High: third}} {
		for text, want := range map[string]bool{
			"1/3": true, "1/2": true, "2/5": true, "0": false, "1": false, "-2/5": false,
			"333333333333333333333333333333/1000000000000000000000000000000": false,
			"166666666666666666666666666667/500000000000000000000000000000":  true,
			"500000000000000000000000000001/1000000000000000000000000000000": false,
		} {
			if s.Has(num(t, text)) != want {
				t.Errorf("Has of %s: %v", text, !want)
			}
		}
	}
	if !(exact.Span{}).Has(exact.Q{}) || (exact.Span{}).Has(exact.Int(1)) {
		t.Error("the zero value has 0 alone")
	}
}

func TestP1_7Examples(t *testing.T) {
	ends(t, "Plus", span(1, 2).Plus(span(-3, 4)), "-2", "6")
	ends(t, "Minus", span(1, 2).Minus(span(-3, 4)), "-3", "5")
	ends(t, "Minus of itself", span(1, 2).Minus(span(1, 2)), "-1", "1")
	ends(t, "Times", span(-1, 2).Times(span(3, 4)), "-4", "8")
	ends(t, "Times of negative spans", span(-2, -1).Times(span(-4, -3)), "3", "8")
	ends(t, "Times around 0", span(-2, 3).Times(span(-5, 4)), "-15", "12")
	ends(t, "Times 0", span(-2, 3).Times(span(0, 0)), "0", "0")
	ends(t, "Square around 0", span(-1, 2).Square(), "0", "4")
	ends(t, "Square around 0, lower end farther", span(-3, 2).Square(), "0", "9")
	ends(t, "Square of negative numbers", span(-3, -2).Square(), "4", "9")
	ends(t, "Square of positive numbers", span(2, 3).Square(), "4", "9")
	ends(t, "Square from 0", span(0, 3).Square(), "0", "9")
	ends(t, "Abs around 0", span(-3, 2).Abs(), "0", "3")
	ends(t, "Abs of negative numbers", span(-3, -2).Abs(), "2", "3")
	ends(t, "Abs of positive numbers", span(2, 3).Abs(), "2", "3")
	ends(t, "Abs to 0", span(-3, 0).Abs(), "0", "3")
}

func TestP1_7Over(t *testing.T) {
	s, e := span(1, 2).Over(span(2, 4))
	if e != api.OK {
		t.Errorf("Over: error %d", e)
	}
	ends(t, "Over", s, "1/4", "1")
	s, e = span(-1, 2).Over(span(-2, -4))
	if e != api.OK {
		t.Errorf("Over: error %d", e)
	}
	ends(t, "Over a negative span", s, "-1", "1/2")
	for _, u := range []exact.Span{{}, span(-1, 1), span(1, -1), span(0, 1), span(1, 0), span(-1, 0), span(0, -1), span(0, 0)} {
		s, e := span(1, 2).Over(u)
		if e != api.ErrZero {
			t.Errorf("Over %s to %s: error %d", u.Low.Text(), u.High.Text(), e)
		}
		none(t, "Over with an error", s)
	}
}

func TestP1_8HullAndMeet(t *testing.T) {
	for _, c := range []struct {
		s, u   exact.Span
		hull   [2]string
		meet   [2]string
		common bool
	}{
		{span(1, 2), span(5, 4), [2]string{"1", "5"}, [2]string{"0", "0"}, false},
		{span(1, 4), span(3, 9), [2]string{"1", "9"}, [2]string{"3", "4"}, true},
		{span(1, 9), span(3, 4), [2]string{"1", "9"}, [2]string{"3", "4"}, true},
		{span(9, 1), span(4, 3), [2]string{"1", "9"}, [2]string{"3", "4"}, true},
		{span(1, 2), span(2, 3), [2]string{"1", "3"}, [2]string{"2", "2"}, true},
		{span(2, 2), span(2, 2), [2]string{"2", "2"}, [2]string{"2", "2"}, true},
		{span(-3, -2), span(1, 2), [2]string{"-3", "2"}, [2]string{"0", "0"}, false},
		{span(-1, 1), span(0, 0), [2]string{"-1", "1"}, [2]string{"0", "0"}, true},
	} {
		for range 2 {
			ends(t, "Hull", c.s.Hull(c.u), c.hull[0], c.hull[1])
			both, ok := c.s.Meet(c.u)
			ends(t, "Meet", both, c.meet[0], c.meet[1])
			if ok != c.common {
				t.Errorf("Meet of %s to %s and %s to %s: %v", c.s.Low.Text(), c.s.High.Text(), c.u.Low.Text(), c.u.High.Text(), ok)
			}
			c.s, c.u = c.u, c.s
		}
	}
}

// TestP1_8Random checks Hull and Meet by the numbers that they have.
func TestP1_8Random(t *testing.T) {
	r := rand.New(rand.NewSource(21))
	for range 3000 {
		s, u := someSpan(r), someSpan(r)
		hull := turned(s).Hull(u)
		narrower(t, "Hull", s, hull)
		narrower(t, "Hull", u, hull)
		within(t, "Hull", hull, []exact.Q{s.Low, s.High, u.Low, u.High})
		both, ok := s.Meet(turned(u))
		common := false
		for _, x := range []exact.Q{s.Low, s.High, u.Low, u.High} {
			has := s.Has(x) && u.Has(x)
			common = common || has
			if ok && both.Has(x) != has {
				t.Fatalf("Meet: %s", x.Text())
			}
		}
		if ok != common {
			t.Fatalf("Meet: %v", ok)
		}
		if !ok {
			none(t, "Meet of spans that have no number in common", both)
			continue
		}
		narrower(t, "Meet", both, s)
		narrower(t, "Meet", both, u)
	}
}

func TestP1_9Out(t *testing.T) {
	for _, c := range [][5]string{
		{"1/3", "5/3", "1/2", "0", "2"}, {"5/3", "1/3", "1/2", "0", "2"}, {"-1/3", "1/3", "1", "-1", "1"}, {"-5/3", "-1/3", "1/2", "-2", "0"},
		{"1", "2", "1/2", "1", "2"}, {"1", "2", "3", "0", "3"}, {"0", "0", "7/3", "0", "0"}, {"1/7", "1/7", "1/5", "0", "1/5"}, {"2/5", "2/5", "1/5", "2/5", "2/5"},
		{"100000000000000000000000000001/2", "100000000000000000000000000001/2", "10", "50000000000000000000000000000", "50000000000000000000000000010"},
	} {
		s, e := exact.Span{Low: num(t, c[0]), High: num(t, c[1])}.Out(num(t, c[2]))
		if e != api.OK {
			t.Errorf("Out of %v: error %d", c, e)
		}
		ends(t, "Out", s, c[3], c[4])
	}
	for _, grid := range []string{"0", "-1", "-1/2", "-340282366920938463463374607431768211457"} {
		s, e := span(1, 2).Out(num(t, grid))
		if e != api.ErrRange {
			t.Errorf("Out with the grid %s: error %d", grid, e)
		}
		none(t, "Out with an error", s)
	}
}

// TestP1_9Least checks that the ends are the nearest multiples.
func TestP1_9Least(t *testing.T) {
	r := rand.New(rand.NewSource(22))
	for range 3000 {
		s, grid := someSpan(r), someNumber(r).Abs()
		if grid.Sign() == 0 {
			continue
		}
		out, e := turned(s).Out(grid)
		if e != api.OK {
			t.Fatalf("Out: error %d", e)
		}
		narrower(t, "Out", s, out)
		for _, end := range []exact.Q{out.Low, out.High} {
			steps := over(t, end, grid)
			if steps.Cmp(steps.Floor()) != 0 {
				t.Fatalf("%s is no multiple of %s", end.Text(), grid.Text())
			}
		}
		if s.Low.Minus(out.Low).Cmp(grid) >= 0 || out.High.Minus(s.High).Cmp(grid) >= 0 {
			t.Fatalf("Out of %s to %s on %s: %s to %s", s.Low.Text(), s.High.Text(), grid.Text(), out.Low.Text(), out.High.Text())
		}
	}
}

func TestP1_10Form(t *testing.T) {
	check := func(what string, coefs []exact.Q, box []exact.Span, want api.Errno, low, high string) {
		t.Helper()
		s, e := exact.Form(coefs, box)
		if e != want {
			t.Errorf("%s: error %d", what, e)
		}
		ends(t, what, s, low, high)
	}
	check("a form", []exact.Q{exact.Int(2), exact.Int(-1)}, []exact.Span{span(0, 1), span(3, 5)}, api.OK, "-5", "-1")
	check("exchanged ends", []exact.Q{exact.Int(2), exact.Int(-1)}, []exact.Span{span(1, 0), span(5, 3)}, api.OK, "-5", "-1")
	check("nil", nil, nil, api.OK, "0", "0")
	check("no coefficients", []exact.Q{}, []exact.Span{}, api.OK, "0", "0")
	check("nil and empty", nil, []exact.Span{}, api.OK, "0", "0")
	check("the coefficient 0", []exact.Q{{}}, []exact.Span{span(-8, 9)}, api.OK, "0", "0")
	check("a span too few", []exact.Q{{}}, nil, api.ErrArg, "0", "0")
	check("a span too many", nil, []exact.Span{span(1, 2)}, api.ErrArg, "0", "0")
	check("two for three", []exact.Q{exact.Int(1), exact.Int(1)}, []exact.Span{span(1, 2), span(1, 2), span(1, 2)}, api.ErrArg, "0", "0")
	coefs, box := make([]exact.Q, 202), make([]exact.Span, 202)
	for i := range coefs {
		coefs[i], box[i] = exact.Int(int64(i%2*2-1)), span(1, 3)
	}
	check("200 coefficients", coefs[:200], box[:200], api.OK, "-200", "200")
	check("200 coefficients, 199 spans", coefs[:200], box[:199], api.ErrArg, "0", "0")
	check("201 coefficients", coefs[:201], box[:201], api.ErrLong, "0", "0")
	check("201 coefficients, no spans", coefs[:201], nil, api.ErrLong, "0", "0")
	check("201 coefficients, 202 spans", coefs[:201], box, api.ErrLong, "0", "0")
}

// TestP1_10FormKeepsItsArguments checks that the lists and their elements stay as they are.
func TestP1_10FormKeepsItsArguments(t *testing.T) {
	coefs := []exact.Q{exact.Int(2), num(t, "-340282366920938463463374607431768211457")}
	box := []exact.Span{span(1, 0), span(5, 3)}
	first, _ := exact.Form(coefs, box)
	if coefs[0].Text() != "2" || coefs[1].Text() != "-340282366920938463463374607431768211457" {
		t.Error("the coefficients are other ones")
	}
	ends(t, "box[0]", box[0], "1", "0")
	ends(t, "box[1]", box[1], "5", "3")
	second, _ := exact.Form(coefs, box)
	equal(t, "the same form once more", second, first)
	coefs[0], box[1] = exact.Int(9), span(0, 0)
	equal(t, "a result after its arguments have changed", first, second)
}

func TestP1_10Quadratic(t *testing.T) {
	quadratic := func(a, b, c int64, s exact.Span) exact.Span {
		return exact.Quadratic(exact.Int(a), exact.Int(b), exact.Int(c), s)
	}
	ends(t, "turn inside", quadratic(1, -2, 0, span(0, 3)), "-1", "3")
	ends(t, "exchanged ends", quadratic(1, -2, 0, span(3, 0)), "-1", "3")
	ends(t, "turn inside, open below", quadratic(-1, 2, 5, span(0, 3)), "2", "6")
	ends(t, "turn at the lower end", quadratic(1, -2, 0, span(1, 3)), "-1", "3")
	ends(t, "turn at the upper end", quadratic(1, -2, 0, span(-1, 1)), "-1", "3")
	ends(t, "turn below", quadratic(1, -2, 0, span(2, 3)), "0", "3")
	ends(t, "turn above", quadratic(1, -2, 0, span(-1, 0)), "0", "3")
	ends(t, "turn between integers", quadratic(2, 3, 0, span(-1, 1)), "-9/8", "5")
	ends(t, "falling line", quadratic(0, -2, 1, span(0, 3)), "-5", "1")
	ends(t, "rising line", quadratic(0, 2, 1, span(0, 3)), "1", "7")
	ends(t, "constant", quadratic(0, 0, 7, span(0, 3)), "7", "7")
	ends(t, "one number", quadratic(1, 1, 1, span(2, 2)), "7", "7")
}

func TestP1_12PairsOfSpans(t *testing.T) {
	r := rand.New(rand.NewSource(23))
	for range 1500 {
		s, u := someSpan(r), someSpan(r)
		for _, op := range pairsFor(t, u) {
			got := op.spans(s, u)
			var values []exact.Q
			for _, x := range inside(t, r, s) {
				for _, y := range inside(t, r, u) {
					values = append(values, op.numbers(x, y))
				}
			}
			within(t, op.name, got, values)
			equal(t, op.name+" with exchanged ends", op.spans(turned(s), u), got)
			equal(t, op.name+" with exchanged ends", op.spans(s, turned(u)), got)
			smaller := exact.Between(inside(t, r, s)[2], inside(t, r, s)[3])
			narrower(t, op.name, op.spans(smaller, u), got)
			smaller = exact.Between(inside(t, r, u)[2], inside(t, r, u)[3])
			narrower(t, op.name, op.spans(s, smaller), got)
		}
	}
}

func TestP1_12SingleSpans(t *testing.T) {
	r := rand.New(rand.NewSource(24))
	for range 3000 {
		a, b, c := someNumber(r), someNumber(r), someNumber(r)
		s := someSpan(r)
		candidates := inside(t, r, s)
		if a.Sign() != 0 {
			if turn := over(t, b.Neg(), a.Times(exact.Int(2))); s.Has(turn) {
				candidates = append(candidates, turn)
			}
		}
		smaller := exact.Between(candidates[2], candidates[3])
		for _, op := range []struct {
			name  string
			span  func(exact.Span) exact.Span
			value func(exact.Q) exact.Q
		}{
			{"Square", exact.Span.Square, func(x exact.Q) exact.Q { return x.Times(x) }},
			{"Abs", exact.Span.Abs, exact.Q.Abs},
			{"Quadratic", func(s exact.Span) exact.Span { return exact.Quadratic(a, b, c, s) },
				func(x exact.Q) exact.Q { return a.Times(x).Times(x).Plus(b.Times(x)).Plus(c) }},
		} {
			var values []exact.Q
			for _, x := range candidates {
				values = append(values, op.value(x))
			}
			within(t, op.name, op.span(s), values)
			equal(t, op.name+" with exchanged ends", op.span(turned(s)), op.span(s))
			narrower(t, op.name, op.span(smaller), op.span(s))
		}
	}
}

func TestP1_12Forms(t *testing.T) {
	r := rand.New(rand.NewSource(25))
	for range 600 {
		n := r.Intn(4)
		coefs, box, smaller, flipped := make([]exact.Q, n), make([]exact.Span, n), make([]exact.Span, n), make([]exact.Span, n)
		values := []exact.Q{{}}
		for i := range n {
			coefs[i], box[i] = someNumber(r), someSpan(r)
			list := inside(t, r, box[i])
			smaller[i], flipped[i] = exact.Between(list[2], list[3]), turned(box[i])
			var longer []exact.Q
			for _, sum := range values {
				for _, x := range list {
					longer = append(longer, sum.Plus(coefs[i].Times(x)))
				}
			}
			values = longer
		}
		form := func(box []exact.Span) exact.Span {
			s, e := exact.Form(coefs, box)
			if e != api.OK {
				t.Fatalf("Form: error %d", e)
			}
			return s
		}
		within(t, "Form", form(box), values)
		equal(t, "Form with exchanged ends", form(flipped), form(box))
		narrower(t, "Form", form(smaller), form(box))
	}
}
