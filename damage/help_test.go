package damage_test

import (
	"slices"
	"strconv"
	"strings"
	"testing"

	"voussoir/api"
	"voussoir/damage"
	"voussoir/exact"
	"voussoir/linear"
)

// num returns the number of a text; it panics if there is none.
func num(s string) exact.Q {
	x, e := exact.Read(s)
	if e != api.OK {
		panic("not a number: " + s)
	}
	return x
}

// nums returns the numbers of a text, with blanks between them.
func nums(s string) []exact.Q {
	var list []exact.Q
	for _, word := range strings.Fields(s) {
		list = append(list, num(word))
	}
	return list
}

// ints returns the integers of a text, with blanks between them.
func ints(s string) []int {
	var list []int
	for _, word := range strings.Fields(s) {
		n, e := strconv.Atoi(word)
		if e != nil {
			panic(e)
		}
		list = append(list, n)
	}
	return list
}

// whole returns an integer.
func whole(n int) exact.Q { return exact.Int(int64(n)) }

// cut returns the two parts of a text, without blanks around them.
func cut(s, between string) (a, b string) {
	a, b, found := strings.Cut(s, between)
	if !found {
		panic("no " + between + " in " + s)
	}
	return strings.TrimSpace(a), strings.TrimSpace(b)
}

// span returns the span of a text, such as -1..1, with its ends as they stand.
func span(s string) exact.Span {
	low, high := cut(s, "..")
	return exact.Span{Low: num(low), High: num(high)}
}

// sensors returns those of texts: what they measure, their errors, and the spans
// of offset, drift and reaction, such as move 2; 1/2; -1..1 0..0 0..0.
func sensors(texts ...string) []damage.Sensor {
	var list []damage.Sensor
	for _, s := range texts {
		place, rest := cut(s, ";")
		what, at := cut(place, " ")
		off, spans := cut(rest, ";")
		three := strings.Fields(spans)
		list = append(list, damage.Sensor{
			Strain: what == "strain", At: ints(at)[0], Error: num(off),
			Offset: span(three[0]), Drift: span(three[1]), Warm: span(three[2]),
		})
	}
	return list
}

// readings returns those of texts: sensor, case, day, degrees and value, such as
// 0 0 0 0 6.
func readings(texts ...string) []damage.Reading {
	var list []damage.Reading
	for _, s := range texts {
		words := strings.Fields(s)
		n := ints(strings.Join(words[:4], " "))
		list = append(list, damage.Reading{Sensor: n[0], Case: n[1], Day: n[2], Degrees: n[3], Value: num(words[4])})
	}
	return list
}

// joint returns a joint that is held in the directions of a text.
func joint(x, y int, held string) api.Joint {
	return api.Joint{X: x, Y: y, FixX: strings.Contains(held, "x"), FixY: strings.Contains(held, "y")}
}

// bar returns a bar. What it bears does not matter here.
func bar(a, b, stiff int) api.Bar { return api.Bar{A: a, B: b, Stiff: stiff} }

// pushed returns pushes of two numbers each.
func pushed(numbers ...int) []api.Push {
	var list []api.Push
	for i := 0; i < len(numbers); i += 2 {
		list = append(list, api.Push{X: numbers[i], Y: numbers[i+1]})
	}
	return list
}

// example returns the watch of the document's first example.
func example() damage.Watch {
	return damage.Watch{
		Truss:    api.Truss{Joints: []api.Joint{joint(0, 0, "xy"), joint(1, 0, "y")}, Bars: []api.Bar{bar(0, 1, 2)}},
		Worst:    []int{10},
		Cases:    [][]api.Push{pushed(0, 0, 6, 0)},
		Sensors:  sensors("move 2; 1/2; -1..1 0..0 0..0"),
		Readings: readings("0 0 0 0 6"),
	}
}

// hanging returns a watch of the truss of the first example of chapter 3. Under
// the case 0, the stretches of the bars are 3 and -3 times their factors, and
// the joint 2 moves by 3/4 of the sum of both, and by the first one.
func hanging() damage.Watch {
	return damage.Watch{
		Truss: api.Truss{
			Joints: []api.Joint{joint(0, 0, "xy"), joint(4, 0, "xy"), joint(0, 3, "")},
			Bars:   []api.Bar{bar(0, 2, 1), bar(1, 2, 1)},
		},
		Worst:    []int{10, 4},
		Cases:    [][]api.Push{pushed(0, 0, 0, 0, 12, 0), pushed(0, 0, 0, 0, 0, 3)},
		Sensors:  sensors("strain 1; 1/2; 0..0 -1..1 0..2", "move 4; 0; -1..1 0..0 1/2..1/2"),
		Readings: readings("0 0 2 -3 -4", "1 0 5 7 6", "1 1 0 0 1"),
	}
}

// fan returns a truss of so many free joints, each of which hangs on two bars of
// its own.
func fan(free int) api.Truss {
	s := api.Truss{Joints: []api.Joint{joint(0, 0, "xy"), joint(4, 0, "xy")}}
	for i := range free {
		s.Joints = append(s.Joints, joint(i, 3+i, ""))
		s.Bars = append(s.Bars, bar(0, 2+i, 1+i), bar(2+i, 1, 7))
	}
	return s
}

// fullWatch returns a watch with as much of everything as there may be.
func fullWatch() damage.Watch {
	w := damage.Watch{
		Truss:   fan(4),
		Worst:   []int{1, api.MaxWorst, 2, 3, 4, 5, 6, 7},
		Cases:   slices.Repeat([][]api.Push{pushed(0, 0, 0, 0, 12, 0, 1, 2, 3, 4, api.MaxPush, -api.MaxPush)}, api.MaxCases),
		Sensors: sensors("strain 0; 0; 0..0 0..0 0..0", "strain 7; 9; 1..-1 2..1 0..-9", "move 0; 1/9; -1..1 0..0 0..0", "move 11; 1; 0..0 0..0 0..0"),
	}
	for i := range api.MaxReadings {
		w.Readings = append(w.Readings, damage.Reading{Sensor: i % 3, Case: i % api.MaxCases, Day: i % 2 * api.MaxDay, Degrees: (i%3 - 1) * api.MaxDegrees})
	}
	return w
}

// texts returns numbers as one text, as nums reads it.
func texts(list []exact.Q) string {
	var words []string
	for _, x := range list {
		words = append(words, x.Text())
	}
	return strings.Join(words, " ")
}

// spanText returns a span as span reads it.
func spanText(s exact.Span) string { return s.Low.Text() + ".." + s.High.Text() }

// spanTexts returns spans as one text.
func spanTexts(list []exact.Span) string {
	var words []string
	for _, s := range list {
		words = append(words, spanText(s))
	}
	return strings.Join(words, " ")
}

// rowTexts returns each row as a text, such as 1 1/5 <= 12.
func rowTexts(rows []linear.Row) []string {
	var list []string
	for _, r := range rows {
		list = append(list, texts(r.Coefs)+" <= "+r.Most.Text())
	}
	return list
}

// intTexts returns integers as one text.
func intTexts(list []int) string {
	var words []string
	for _, n := range list {
		words = append(words, strconv.Itoa(n))
	}
	return strings.Join(words, " ")
}

// setTexts returns sets of sensors as one text, such as 0 1, 2 3.
func setTexts(sets [][]int) string {
	var words []string
	for _, set := range sets {
		words = append(words, intTexts(set))
	}
	return strings.Join(words, ", ")
}

// watchText returns all that a watch says as one text.
func watchText(w damage.Watch) string {
	var words []string
	held := map[bool]string{true: "!"}
	for _, j := range w.Truss.Joints {
		words = append(words, strconv.Itoa(j.X)+held[j.FixX]+","+strconv.Itoa(j.Y)+held[j.FixY])
	}
	for _, b := range w.Truss.Bars {
		words = append(words, intTexts([]int{b.A, b.B, b.Stiff, b.Tension, b.Squash}))
	}
	words = append(words, "worst", intTexts(w.Worst))
	for _, pushes := range w.Cases {
		words = append(words, "\ncase")
		for _, p := range pushes {
			words = append(words, intTexts([]int{p.X, p.Y}))
		}
	}
	for _, s := range w.Sensors {
		what := map[bool]string{true: "strain", false: "move"}[s.Strain]
		words = append(words, "\n"+what+" "+strconv.Itoa(s.At)+"; "+s.Error.Text()+"; "+spanTexts([]exact.Span{s.Offset, s.Drift, s.Warm}))
	}
	for _, r := range w.Readings {
		words = append(words, "\nreading "+intTexts([]int{r.Sensor, r.Case, r.Day, r.Degrees})+" "+r.Value.Text())
	}
	return strings.Join(words, " ")
}

// boolInt returns 1 for true, otherwise 0.
func boolInt(b bool) int {
	if b {
		return 1
	}
	return 0
}

// asker is a function about a watch: it returns its error, and whether every
// other result is zero.
type asker func(w damage.Watch) (zero bool, e api.Errno)

// askers returns all functions about a watch, with arguments that are valid for
// the watch of the first example.
func askers() map[string]asker {
	return map[string]asker{
		"Check": func(w damage.Watch) (bool, api.Errno) { return true, damage.Check(w) },
		"Rows": func(w damage.Watch) (bool, api.Errno) {
			rows, e := damage.Rows(w)
			return len(rows) == 0, e
		},
		"Liars": func(w damage.Watch) (bool, api.Errno) {
			sets, e := damage.Liars(w)
			return len(sets) == 0, e
		},
		"Factors":  askFactors,
		"Explains": askExplains(nums("2")),
		"Foresee":  askForesee(pushed(0, 0, 6, 0), 2),
		"Findings": askFindings(num("2")),
		"Exclude":  askExclude(0, num("3")),
		"Excludes": askExcludes(0, num("3"), nums("0 0 0 1/3 0 0 0 0 1/3 0")),
	}
}

// askFactors is the asker of Factors.
func askFactors(w damage.Watch) (bool, api.Errno) {
	factors, e := damage.Factors(w)
	return len(factors) == 0, e
}

// askExplains returns an asker of Explains.
func askExplains(factors []exact.Q) asker {
	return func(w damage.Watch) (bool, api.Errno) {
		explains, e := damage.Explains(w, factors)
		return !explains, e
	}
}

// askForesee returns an asker of Foresee.
func askForesee(pushes []api.Push, direction int) asker {
	return func(w damage.Watch) (bool, api.Errno) {
		s, e := damage.Foresee(w, pushes, direction)
		return s.Low.Sign() == 0 && s.High.Sign() == 0, e
	}
}

// askFindings returns an asker of Findings.
func askFindings(limit exact.Q) asker {
	return func(w damage.Watch) (bool, api.Errno) {
		findings, e := damage.Findings(w, limit)
		return len(findings) == 0, e
	}
}

// askExclude returns an asker of Exclude.
func askExclude(bar int, limit exact.Q) asker {
	return func(w damage.Watch) (bool, api.Errno) {
		weights, e := damage.Exclude(w, bar, limit)
		return len(weights) == 0, e
	}
}

// askExcludes returns an asker of Excludes.
func askExcludes(bar int, limit exact.Q, weights []exact.Q) asker {
	return func(w damage.Watch) (bool, api.Errno) {
		excludes, e := damage.Excludes(w, bar, limit, weights)
		return !excludes, e
	}
}

// refused checks that an asker answers with an error, and with nothing else.
func refused(t *testing.T, what string, ask asker, w damage.Watch, want api.Errno) {
	t.Helper()
	if zero, e := ask(w); e != want || !zero {
		t.Errorf("%s: error %d, not %d; all zero: %v: %s", what, e, want, zero, watchText(w))
	}
}
