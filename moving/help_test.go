package moving_test

import (
	"math/rand"
	"strings"
	"testing"

	"voussoir/api"
	"voussoir/exact"
	"voussoir/moving"
)

// num returns the number of a text; it panics if there is none.
func num(s string) exact.Q {
	x, e := exact.Read(s)
	if e != api.OK {
		panic("not a number: " + s)
	}
	return x
}

// span returns the span of a text: a number, or two with points between them.
func span(s string) exact.Span {
	low, high, two := strings.Cut(s, "..")
	if !two {
		high = low
	}
	return exact.Span{Low: num(low), High: num(high)} // not Between: the ends may be exchanged
}

// pairs returns what a function makes of the two parts of each word of a text.
func pairs[T any](s, between string, of func(a, b string) T) []T {
	var list []T
	for _, word := range strings.Fields(s) {
		a, b, _ := strings.Cut(word, between)
		list = append(list, of(a, b))
	}
	return list
}

// line returns the line of a text, such as 0@0 5@1 10@0.
func line(s string) []moving.Point {
	return pairs(s, "@", func(x, y string) moving.Point { return moving.Point{X: num(x), Y: num(y)} })
}

// bands returns the bands of a text, such as 0@0 5@9/10..1 10@0.
func bands(s string) []moving.Band {
	return pairs(s, "@", func(x, y string) moving.Band { return moving.Band{X: num(x), Y: span(y)} })
}

// vehicle returns the vehicle of a text, such as 10+4 10+0.
func vehicle(s string) []moving.Axle {
	return pairs(s, "+", func(load, gap string) moving.Axle { return moving.Axle{Load: num(load), Gap: num(gap)} })
}

// loads returns the loads of a text, such as 10+4 0..10+0.
func loads(s string) []moving.Load {
	return pairs(s, "+", func(load, gap string) moving.Load { return moving.Load{Load: span(load), Gap: num(gap)} })
}

// impacts returns the table of a text, such as 0:1 30:5/4.
func impacts(s string) []moving.Impact {
	return pairs(s, ":", func(from, factor string) moving.Impact {
		n, _ := num(from).Int64()
		return moving.Impact{From: int(n), Factor: num(factor)}
	})
}

// spans returns the spans of a text, with blanks between them.
func spans(s string) []exact.Span {
	return pairs(s, " ", func(word, _ string) exact.Span { return span(word) })
}

// nums returns the numbers of a text, with blanks between them.
func nums(s string) []exact.Q {
	return pairs(s, " ", func(word, _ string) exact.Q { return num(word) })
}

// spanText returns a span as a text, with both ends.
func spanText(s exact.Span) string { return s.Low.Text() + ".." + s.High.Text() }

// lineText returns a line as line reads it.
func lineText(l []moving.Point) string {
	var words []string
	for _, p := range l {
		words = append(words, p.X.Text()+"@"+p.Y.Text())
	}
	return strings.Join(words, " ")
}

// vehicleText returns a vehicle as vehicle reads it.
func vehicleText(v []moving.Axle) string {
	var words []string
	for _, a := range v {
		words = append(words, a.Load.Text()+"+"+a.Gap.Text())
	}
	return strings.Join(words, " ")
}

// bandsText returns bands as bands reads them.
func bandsText(l []moving.Band) string {
	var words []string
	for _, b := range l {
		words = append(words, b.X.Text()+"@"+spanText(b.Y))
	}
	return strings.Join(words, " ")
}

// loadsText returns loads as loads reads them.
func loadsText(v []moving.Load) string {
	var words []string
	for _, l := range v {
		words = append(words, spanText(l.Load)+"+"+l.Gap.Text())
	}
	return strings.Join(words, " ")
}

// The line and the vehicle of the document's examples.
const (
	tent  = "0@0 5@1 10@0"
	truck = "10+4 10+0"
)

// whole returns an integer.
func whole(n int) exact.Q { return exact.Int(int64(n)) }

// part returns a fraction whose denominator is not 0.
func part(a, b int) exact.Q {
	x, _ := exact.Of(int64(a), int64(b))
	return x
}

// longLine returns a line of so many points: at 0, 1, 2 and so on, with values
// that go up and down.
func longLine(points int) []moving.Point {
	var l []moving.Point
	for i := range points {
		l = append(l, moving.Point{X: whole(i), Y: whole(i * (points - 1 - i) % 7)})
	}
	return l
}

// longVehicle returns a vehicle of so many axles.
func longVehicle(axles int) []moving.Axle {
	var v []moving.Axle
	for i := range axles {
		v = append(v, moving.Axle{Load: whole(i % 5), Gap: whole(min(i%3, axles-1-i))})
	}
	return v
}

// longTable returns a table of so many impact factors.
func longTable(elements int) []moving.Impact {
	var table []moving.Impact
	for i := range elements {
		table = append(table, moving.Impact{From: 7 * i, Factor: whole(i % 4)})
	}
	return table
}

// wrongLines returns lines that are not valid.
func wrongLines() [][]moving.Point {
	list := [][]moving.Point{nil, {}, longLine(api.MaxPoints + 1), longLine(5 * api.MaxPoints)}
	for _, s := range []string{
		"0@0", "0@1", "0@0 0@0", "1@0 0@0", "0@1 10@0", "0@0 10@1", "0@-1 10@0", "0@0 10@-1/1000", "0@1 10@1",
		"0@0 5@1 5@0", "0@0 0@1 5@0", "0@0 5@1 5@2 10@0", "0@0 6@1 5@1 10@0", "0@0 5@1 4@0", "3@0 5@1 10@0 2@0", "-1@0 -2@1 0@0",
		"1/3@0 3333333333333333333333333333/10000000000000000000000000000@0",
	} {
		list = append(list, line(s))
	}
	return list
}

// wrongVehicles returns vehicles that are not valid.
func wrongVehicles() [][]moving.Axle {
	list := [][]moving.Axle{nil, {}, longVehicle(api.MaxAxles + 1), longVehicle(10 * api.MaxAxles)}
	for _, s := range []string{
		"10+1", "10+-1", "-1+0", "-1/1000+0", "0+1/1000", "10+4 10+1", "10+4 10+-1", "10+-4 10+0", "-10+4 10+0", "10+4 -10+0", "10+4 10+-1/9 10+0",
		"-1/340282366920938463463374607431768211455+0",
	} {
		list = append(list, vehicle(s))
	}
	return list
}

// wrongCalls calls a function with all that makes a line or a vehicle not
// valid, and the last time with what is valid.
func wrongCalls(call func(what string, l []moving.Point, v []moving.Axle, valid bool)) {
	l, v := line(tent), vehicle(truck)
	for i, wrong := range wrongLines() {
		call("wrong line "+whole(i).Text(), wrong, v, false)
	}
	for i, wrong := range wrongVehicles() {
		call("wrong vehicle "+whole(i).Text(), l, wrong, false)
	}
	call("both wrong", nil, nil, false)
	call("what is valid", l, v, true)
}

// extremeInts returns integers that are outside of most ranges.
func extremeInts() []int { return []int{-1 << 63, 1<<63 - 1, -1 << 32, 1 << 32, -1 << 31, 1 << 31, -1} }

// isZero reports whether a span is that of 0 alone.
func isZero(s exact.Span) bool { return s.Low.Sign() == 0 && s.High.Sign() == 0 }

// noSpan checks that a span is refused with an error.
func noSpan(t *testing.T, what string, s exact.Span, e, want api.Errno) {
	t.Helper()
	if e != want || !isZero(s) {
		t.Errorf("%s: error %d, not %d; %s", what, e, want, spanText(s))
	}
}

// checkSpan checks the text of a span.
func checkSpan(t *testing.T, what string, s exact.Span, e api.Errno, want string) {
	t.Helper()
	if e != api.OK || spanText(s) != want {
		t.Errorf("%s: %s, error %d, not %s", what, spanText(s), e, want)
	}
}

// someQ returns a number from low to high: an integer, a fraction, or now and
// then a very long one.
func someQ(r *rand.Rand, low, high int) exact.Q {
	x := whole(low + r.Intn(high-low+1))
	if x.Cmp(whole(high)) == 0 || r.Intn(3) > 0 {
		return x
	}
	if r.Intn(12) == 0 {
		long, _ := exact.Int(r.Int63()).Times(exact.Int(r.Int63())).Over(num("340282366920938463463374607431768211456"))
		return x.Plus(long)
	}
	return x.Plus(part(r.Intn(7), 7))
}

// someLine returns a line of so many points at random. Some of its parts are
// level, some of its values 0.
func someLine(r *rand.Rand, points int) []moving.Point {
	x := someQ(r, -20, 20)
	var l []moving.Point
	for i := range points {
		p := moving.Point{X: x}
		if i > 0 && i < points-1 && r.Intn(6) > 0 {
			p.Y = someQ(r, -4, 4)
			if r.Intn(4) == 0 {
				p.Y = l[i-1].Y
			}
		}
		l = append(l, p)
		x = x.Plus(someQ(r, 0, 5)).Plus(part(1, 1+r.Intn(3)))
	}
	return l
}

// someVehicle returns a vehicle of so many axles at random. Some of its loads
// and some of its gaps are 0.
func someVehicle(r *rand.Rand, axles int) []moving.Axle {
	var v []moving.Axle
	for i := range axles {
		a := moving.Axle{Load: someQ(r, 0, 12)}
		if i < axles-1 {
			a.Gap = someQ(r, 0, 6)
		}
		v = append(v, a)
	}
	return v
}

// widened returns a span with a number in it, often with the number alone and
// otherwise at times with its ends exchanged.
func widened(r *rand.Rand, x exact.Q, low exact.Q) exact.Span {
	if r.Intn(2) == 0 {
		return exact.Span{Low: x, High: x}
	}
	least := x.Minus(someQ(r, 0, 4))
	if least.Cmp(low) < 0 {
		least = low
	}
	s := exact.Span{Low: least, High: x.Plus(someQ(r, 0, 4))}
	if r.Intn(3) == 0 {
		s.Low, s.High = s.High, s.Low
	}
	return s
}

// someBands returns bands around a line.
func someBands(r *rand.Rand, l []moving.Point) []moving.Band {
	var list []moving.Band
	for i, p := range l {
		b := moving.Band{X: p.X, Y: exact.Span{Low: p.Y, High: p.Y}}
		if i > 0 && i < len(l)-1 {
			b.Y = widened(r, p.Y, whole(-100))
		}
		list = append(list, b)
	}
	return list
}

// someLoads returns loads around those of a vehicle.
func someLoads(r *rand.Rand, v []moving.Axle) []moving.Load {
	var list []moving.Load
	for _, a := range v {
		list = append(list, moving.Load{Load: widened(r, a.Load, exact.Q{}), Gap: a.Gap})
	}
	return list
}
