package weigh_test

import (
	"slices"
	"strconv"
	"strings"
	"testing"

	"voussoir/api"
	"voussoir/exact"
	"voussoir/linear"
	"voussoir/moving"
	"voussoir/weigh"
)

// num returns the number of a text; it panics if there is none.
func num(s string) exact.Q {
	x, e := exact.Read(s)
	if e != api.OK {
		panic("not a number: " + s)
	}
	return x
}

// nums returns the numbers of a text, with blanks between them.
func nums(s string) []exact.Q {
	var list []exact.Q
	for _, word := range strings.Fields(s) {
		list = append(list, num(word))
	}
	return list
}

// whole returns an integer.
func whole(n int) exact.Q { return exact.Int(int64(n)) }

// cut returns the two parts of a text, without blanks around them.
func cut(s, between string) (a, b string) {
	a, b, found := strings.Cut(s, between)
	if !found {
		panic("no " + between + " in " + s)
	}
	return strings.TrimSpace(a), strings.TrimSpace(b)
}

// line returns the line of a text, such as 0@0 5@1 10@0.
func line(s string) []moving.Point {
	var l []moving.Point
	for _, word := range strings.Fields(s) {
		x, y := cut(word, "@")
		l = append(l, moving.Point{X: num(x), Y: num(y)})
	}
	return l
}

// site returns the site of a line and of readings, such as 5:11..12.
func site(l, readings string) weigh.Site {
	s := weigh.Site{Line: line(l)}
	for _, word := range strings.Fields(readings) {
		at, bounds := cut(word, ":")
		low, high := cut(bounds, "..")
		s.Readings = append(s.Readings, weigh.Reading{At: num(at), Low: num(low), High: num(high)})
	}
	return s
}

// pattern returns the pattern of a text: the axles of its vehicles, the gaps and
// what an axle may weigh, such as 2 1; 4 9; 0..20.
func pattern(s string) weigh.Pattern {
	vehicles, rest := cut(s, ";")
	gaps, bounds := cut(rest, ";")
	light, heavy := cut(bounds, "..")
	p := weigh.Pattern{Gaps: nums(gaps), Light: num(light), Heavy: num(heavy)}
	for _, word := range strings.Fields(vehicles) {
		n, e := strconv.Atoi(word)
		if e != nil {
			panic(e)
		}
		p.Vehicles = append(p.Vehicles, n)
	}
	return p
}

// patterns returns those of some texts.
func patterns(texts ...string) []weigh.Pattern {
	var l []weigh.Pattern
	for _, s := range texts {
		l = append(l, pattern(s))
	}
	return l
}

// law returns the law of a text: the greatest load of an axle, and the greatest
// sums, such as 20; 10 18 18 18 18 18.
func law(s string) weigh.Law {
	axle, gross := cut(s, ";")
	return weigh.Law{Axle: num(axle), Gross: nums(gross)}
}

// scene is what a trial is about.
type scene struct {
	s       weigh.Site
	l       []weigh.Pattern
	w       weigh.Law
	vehicle int
}

// The site, the pattern and the laws of the document's examples.
const (
	tent    = "0@0 5@1 10@0"
	strains = "5:11..12 9:11..12"
	pair    = "2; 4; 0..20"
	singles = "1 1; 4; 0..20"
	strict  = "20; 15 18 18 18 18 18"
	mild    = "20; 15 19 19 19 19 19"
)

// example returns the scene of the document's third example.
func example() scene {
	return scene{site(tent, strains), patterns(pair), law(strict), 0}
}

// texts returns numbers as one text, as nums reads it.
func texts(list []exact.Q) string {
	var words []string
	for _, x := range list {
		words = append(words, x.Text())
	}
	return strings.Join(words, " ")
}

// spanTexts returns spans as one text.
func spanTexts(list []exact.Span) string {
	var words []string
	for _, s := range list {
		words = append(words, s.Low.Text()+".."+s.High.Text())
	}
	return strings.Join(words, " ")
}

// weightsText returns weights as one text.
func weightsText(w weigh.Weights) string {
	return spanTexts(w.Axles) + " | " + spanTexts(w.Vehicles)
}

// rowTexts returns each row as a text, such as 1 1/5 <= 12.
func rowTexts(rows []linear.Row) []string {
	var list []string
	for _, r := range rows {
		list = append(list, texts(r.Coefs)+" <= "+r.Most.Text())
	}
	return list
}

// siteText returns a site as one text.
func siteText(s weigh.Site) string {
	var words []string
	for _, p := range s.Line {
		words = append(words, p.X.Text()+"@"+p.Y.Text())
	}
	for _, r := range s.Readings {
		words = append(words, r.At.Text()+":"+r.Low.Text()+".."+r.High.Text())
	}
	return strings.Join(words, " ")
}

// patternText returns a pattern as pattern reads it.
func patternText(p weigh.Pattern) string {
	var words []string
	for _, n := range p.Vehicles {
		words = append(words, strconv.Itoa(n))
	}
	return strings.Join(words, " ") + "; " + texts(p.Gaps) + "; " + p.Light.Text() + ".." + p.Heavy.Text()
}

// text returns a scene as one text.
func (c scene) text() string {
	s := siteText(c.s)
	for _, p := range c.l {
		s += "\npattern " + patternText(p)
	}
	return s + "\nlaw " + c.w.Axle.Text() + "; " + texts(c.w.Gross) + "\nvehicle " + strconv.Itoa(c.vehicle)
}

// answerTexts returns answers as one text.
func answerTexts(list []linear.Answer) string {
	var lines []string
	for _, a := range list {
		lines = append(lines, strconv.Itoa(int(a.Outcome))+" value "+a.Value.Text()+" point "+texts(a.Point)+" weights "+texts(a.Weights)+" ray "+texts(a.Ray))
	}
	return strings.Join(lines, "\n")
}

// longLine returns a line of so many points: at 0, 1, 2 and so on.
func longLine(points int) []moving.Point {
	var l []moving.Point
	for i := range points {
		l = append(l, moving.Point{X: whole(i), Y: whole(i * (points - 1 - i) % 7)})
	}
	return l
}

// read returns so many readings.
func read(n int) []weigh.Reading {
	var list []weigh.Reading
	for i := range n {
		list = append(list, weigh.Reading{At: whole(i), Low: whole(-1000), High: whole(1000)})
	}
	return list
}

// train returns a pattern of so many axles, each of them a vehicle.
func train(axles int) weigh.Pattern {
	p := weigh.Pattern{Heavy: whole(20)}
	for i := range axles {
		if i > 0 {
			p.Gaps = append(p.Gaps, whole(i%3))
		}
		p.Vehicles = append(p.Vehicles, 1)
	}
	return p
}

// wrongSites returns sites that are not valid.
func wrongSites() []weigh.Site {
	list := []weigh.Site{{}, {Readings: read(1)}, {Line: longLine(api.MaxPoints + 1)}, {Line: line(tent), Readings: read(api.MaxStrains + 1)}, {Line: line(tent), Readings: read(10 * api.MaxStrains)}}
	for _, l := range []string{"0@0", "0@0 5@1", "0@1 5@0", "0@0 0@0", "3@0 2@1 5@0", "0@0 5@1 5@0"} {
		list = append(list, site(l, ""), site(l, strains))
	}
	for _, readings := range []string{
		"5:12..11", "5:1/3..333/1000", "5:0..-1", "5:-1..-2", "5:11..12 9:12..11", "5:12..11 9:11..12", "5:1..1 5:1..1 5:1..1 5:1..0",
		"5:340282366920938463463374607431768211456..340282366920938463463374607431768211455",
	} {
		list = append(list, site(tent, readings))
	}
	return list
}

// wrongPatterns returns patterns that are not valid.
func wrongPatterns() []weigh.Pattern {
	list := []weigh.Pattern{{}, train(api.MaxTrain + 1), train(100 * api.MaxTrain), {Vehicles: []int{2}, Heavy: whole(20)}}
	for _, s := range []string{
		"; 4; 0..20", "1; 4; 0..20", "3; 4; 0..20", "1 1 1; 4; 0..20", "2 1; 4; 0..20", "0 2; 4; 0..20", "2 0; 4; 0..20", "1 0 1; 4; 0..20", "3 -1; 4; 0..20", "-1 3; 4; 0..20", "-2; 4; 0..20",
		"2; -4; 0..20", "2; -1/1000; 0..20", "3; 4 -1; 0..20", "3; -1 4; 0..20", "2; -340282366920938463463374607431768211456; 0..20",
		"2; 4; -1..20", "2; 4; -1/1000..20", "2; 4; 21..20", "2; 4; 1/3..333/1000", "2; 4; 0..-1", "2; 4; -2..-1",
		"9223372036854775807; 4; 0..20", "-9223372036854775808; 4; 0..20",
		"9223372036854775807 9223372036854775807 4; 4; 0..20",                                         // they wrap around to 2
		"-9223372036854775808 -9223372036854775808 2; 4; 0..20",                                       // so do these
		"4611686018427387904 4611686018427387904 4611686018427387904 4611686018427387904 2; 4; 0..20", // and these
		"4294967298; 4; 0..20",
	} {
		list = append(list, pattern(s))
	}
	return list
}

// refuses calls a function about a site and patterns with all that is not
// valid. The function returns whether everything but the error was zero.
func refuses(t *testing.T, many bool, call func(s weigh.Site, l []weigh.Pattern) (zero bool, e api.Errno)) {
	t.Helper()
	s, p := site(tent, strains), pattern(pair)
	check := func(what string, i int, s weigh.Site, l []weigh.Pattern, want api.Errno) {
		t.Helper()
		if zero, e := call(s, l); e != want || !zero {
			t.Errorf("%s %d: error %d, not %d; all zero: %v", what, i, e, want, zero)
		}
	}
	for i, wrong := range wrongSites() {
		check("wrong site", i, wrong, []weigh.Pattern{p}, api.ErrArg)
		if many {
			check("wrong site, no pattern", i, wrong, nil, api.ErrArg)
			check("wrong site, too many patterns", i, wrong, slices.Repeat([]weigh.Pattern{p}, api.MaxPatterns+1), api.ErrArg)
		}
	}
	for i, wrong := range wrongPatterns() {
		check("wrong pattern", i, s, []weigh.Pattern{wrong}, api.ErrArg)
		if many {
			check("wrong pattern behind", i, s, []weigh.Pattern{p, p, wrong}, api.ErrArg)
			check("wrong pattern before", i, s, []weigh.Pattern{wrong, p}, api.ErrArg)
			check("too many patterns", i, s, slices.Repeat([]weigh.Pattern{wrong}, api.MaxPatterns+1), api.ErrLong)
		}
	}
	if many {
		check("a pattern too many", 0, s, slices.Repeat([]weigh.Pattern{p}, api.MaxPatterns+1), api.ErrLong)
		check("far too many patterns", 0, s, slices.Repeat([]weigh.Pattern{p}, 100*api.MaxPatterns), api.ErrLong)
	}
}
