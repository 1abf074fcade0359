package permit_test

import (
	"slices"
	"strconv"
	"strings"
	"testing"

	"voussoir/api"
	"voussoir/exact"
	"voussoir/moving"
	"voussoir/permit"
)

// num returns the number of a text; it panics if there is none.
func num(s string) exact.Q {
	x, e := exact.Read(s)
	if e != api.OK {
		panic("not a number: " + s)
	}
	return x
}

// whole returns an integer.
func whole(n int) exact.Q { return exact.Int(int64(n)) }

// part returns a fraction whose denominator is not 0.
func part(a, b int) exact.Q {
	x, _ := exact.Of(int64(a), int64(b))
	return x
}

// integer returns the integer of a text.
func integer(s string) int {
	n, e := strconv.Atoi(s)
	if e != nil {
		panic(e)
	}
	return n
}

// eachWord returns what a function reads in each word of a text.
func eachWord[T any](s string, read func(string) T) []T {
	var list []T
	for _, word := range strings.Fields(s) {
		list = append(list, read(word))
	}
	return list
}

// ints returns the integers of a text, with blanks between them.
func ints(s string) []int { return eachWord(s, integer) }

// span returns the span of a text: a number, or two with points between them.
func span(s string) exact.Span {
	low, high, two := strings.Cut(s, "..")
	if !two {
		high = low
	}
	return exact.Span{Low: num(low), High: num(high)} // not Between: the ends may be exchanged
}

// bands returns the bands of a text, such as 0@0 5@9/10..1 10@0.
func bands(s string) []moving.Band {
	return eachWord(s, func(word string) moving.Band {
		x, y, _ := strings.Cut(word, "@")
		return moving.Band{X: num(x), Y: span(y)}
	})
}

// loads returns the loads of a text, such as 10+4 0..10+0.
func loads(s string) []moving.Load {
	return eachWord(s, func(word string) moving.Load {
		load, gap, _ := strings.Cut(word, "+")
		return moving.Load{Load: span(load), Gap: num(gap)}
	})
}

// impacts returns the table of a text, such as 0:1 30:5/4.
func impacts(s string) []moving.Impact {
	return eachWord(s, func(word string) moving.Impact {
		from, factor, _ := strings.Cut(word, ":")
		return moving.Impact{From: integer(from), Factor: num(factor)}
	})
}

// weather returns the weather of a text: wind, water and tremor.
func weather(s string) api.Weather {
	list := ints(s)
	return api.Weather{Wind: list[0], Water: list[1], Tremor: list[2]}
}

// member returns the member of a text: the bands, the effect of the bridge
// itself, and what it bears, such as 0@0 5@1 10@0 | 2..3 | 0..20.
func member(s string) permit.Member {
	parts := strings.Split(s, "|")
	bears := span(strings.TrimSpace(parts[2]))
	return permit.Member{Bands: bands(parts[0]), Dead: span(strings.TrimSpace(parts[1])), Low: bears.Low, High: bears.High}
}

// bridge returns a bridge that is open up to the weather 10 20 5.
func bridge(impact string, members ...string) permit.Bridge {
	b := permit.Bridge{Impact: impacts(impact), Most: weather("10 20 5")}
	for _, s := range members {
		b.Members = append(b.Members, member(s))
	}
	return b
}

// transport returns a transport with loads and speeds.
func transport(s string, from, to int) permit.Transport {
	return permit.Transport{Loads: loads(s), From: from, To: to}
}

// The line and the vehicle, the impact factors and the member of the document's
// examples.
const (
	tent  = "0@0 5@1 10@0"
	truck = "10+4 10+0"
	swing = "0:1 30:5/4"
	beam  = tent + " | 2..3 | 0..20"
)

// road returns the road of a text: its places, its length, and its bridges, such
// as 0 1 5 over 0 2.
func road(s string) permit.Road {
	first, bridges, _ := strings.Cut(s, "over")
	list := ints(first)
	return permit.Road{A: list[0], B: list[1], Length: list[2], Bridges: ints(bridges)}
}

// net returns a network over bridges of three kinds: 0 is that of the document's
// example, 1 does not bear itself, 2 is open only in the weather 0 0 0.
func net(places int, roads ...string) permit.Net {
	n := permit.Net{Places: places}
	for _, b := range []string{beam, tent + " | 2..3 | 0..2", beam} {
		n.Bridges = append(n.Bridges, bridge(swing, b))
	}
	n.Bridges[2].Most = api.Weather{}
	for _, s := range roads {
		n.Roads = append(n.Roads, road(s))
	}
	return n
}

// triangle is the roads of the document's example: over the bridge, or around it.
func triangle() []string { return []string{"0 1 5 over 0", "0 2 4", "2 1 4"} }

// slow returns the transport of the document's example at the speeds 0 to 20.
func slow() permit.Transport { return transport(truck, 0, 20) }

// calm is the weather in which all is open.
func calm() api.Weather { return api.Weather{} }

// breeze is weather in which only the third bridge of net is closed.
func breeze() api.Weather { return weather("1 0 0") }

// intTexts returns integers as a text.
func intTexts(list []int) string {
	var words []string
	for _, n := range list {
		words = append(words, strconv.Itoa(n))
	}
	return strings.Join(words, " ")
}

// boolText returns bools as a text: 1 for true, and 0 for false.
func boolText(list []bool) string {
	var text []byte
	for _, b := range list {
		text = append(text, "01"[slices.Index([]bool{false, true}, b)])
	}
	return string(text)
}

// spanText returns a span as a text, with both ends as they stand.
func spanText(s exact.Span) string { return s.Low.Text() + ".." + s.High.Text() }

// loadsText returns loads as loads reads them.
func loadsText(v []moving.Load) string {
	var words []string
	for _, l := range v {
		words = append(words, spanText(l.Load)+"+"+l.Gap.Text())
	}
	return strings.Join(words, " ")
}

// transportText returns a transport as a text.
func transportText(t permit.Transport) string {
	return loadsText(t.Loads) + " at " + intTexts([]int{t.From, t.To})
}

// weatherText returns weather as a text.
func weatherText(w api.Weather) string { return intTexts([]int{w.Wind, w.Water, w.Tremor}) }

// memberText returns a member as member reads it.
func memberText(m permit.Member) string {
	s := ""
	for _, b := range m.Bands {
		s += b.X.Text() + "@" + spanText(b.Y) + " "
	}
	return s + "| " + spanText(m.Dead) + " | " + m.Low.Text() + ".." + m.High.Text()
}

// bridgeText returns a bridge as a text.
func bridgeText(b permit.Bridge) string {
	s := ""
	for _, i := range b.Impact {
		s += strconv.Itoa(i.From) + ":" + i.Factor.Text() + " "
	}
	s += "to " + weatherText(b.Most)
	for _, m := range b.Members {
		s += "\n\t" + memberText(m)
	}
	return s
}

// netText returns a network as a text.
func netText(n permit.Net) string {
	s := strconv.Itoa(n.Places) + " places"
	for _, r := range n.Roads {
		s += ", " + intTexts([]int{r.A, r.B, r.Length}) + " over " + intTexts(r.Bridges)
	}
	for _, b := range n.Bridges {
		s += "\n" + bridgeText(b)
	}
	return s
}

// permitText returns a permit as a text.
func permitText(p permit.Permit) string {
	return intTexts(p.Roads) + ": " + strconv.Itoa(p.Length) + ", reached " + boolText(p.Reached)
}

// checkBears checks which member is not safe.
func checkBears(t *testing.T, b permit.Bridge, v permit.Transport, want int) {
	t.Helper()
	if n, e := permit.Bears(b, v); n != want || e != api.OK {
		t.Errorf("Bears of %s\nby %s: %d, error %d, not %d", bridgeText(b), transportText(v), n, e, want)
	}
}

// checkRate checks a rating: the text of a factor, or nothing if there is no limit.
func checkRate(t *testing.T, b permit.Bridge, v permit.Transport, want string) {
	t.Helper()
	x, limited, e := permit.Rate(b, v)
	if e != api.OK || limited != (want != "") || limited && x.Text() != want || !limited && x.Sign() != 0 {
		t.Errorf("Rate of %s\nby %s: %s, %v, error %d, not %s", bridgeText(b), transportText(v), x.Text(), limited, e, want)
	}
}

// checkPost checks the speed that is posted.
func checkPost(t *testing.T, b permit.Bridge, v []moving.Load, want int) {
	t.Helper()
	if speed, e := permit.Post(b, v); speed != want || e != api.OK {
		t.Errorf("Post of %s\nfor %s: %d, error %d, not %d", bridgeText(b), loadsText(v), speed, e, want)
	}
}

// checkUsable checks which roads are usable.
func checkUsable(t *testing.T, n permit.Net, v permit.Transport, w api.Weather, want string) {
	t.Helper()
	if list, e := permit.Usable(n, v, w); boolText(list) != want || e != api.OK {
		t.Errorf("Usable of %s\nby %s in %s: %s, error %d, not %s", netText(n), transportText(v), weatherText(w), boolText(list), e, want)
	}
}

// checkRoute checks a route; there is none if the places that are reached stand
// at the end of it.
func checkRoute(t *testing.T, n permit.Net, v permit.Transport, w api.Weather, from, to int, want string) {
	t.Helper()
	wanted := api.OK
	if !strings.HasSuffix(want, "reached ") {
		wanted = api.ErrNoWay
	}
	if p, e := permit.Route(n, v, w, from, to); permitText(p) != want || e != wanted {
		t.Errorf("Route of %s\nfrom %d to %d: %s, error %d, not %s", netText(n), from, to, permitText(p), e, want)
	}
}

// checkKeeps checks how far roads can be followed, and whether they are a route.
func checkKeeps(t *testing.T, n permit.Net, v permit.Transport, w api.Weather, from, to int, roads string, want int, wanted api.Errno) {
	t.Helper()
	if at, e := permit.Keeps(n, v, w, from, to, ints(roads)); at != want || e != wanted {
		t.Errorf("Keeps of %s\nfrom %d to %d by %s: %d, error %d, not %d, error %d", netText(n), from, to, roads, at, e, want, wanted)
	}
}
