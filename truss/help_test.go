package truss_test

import (
	"math/rand"
	"slices"
	"strings"
	"testing"

	"voussoir/api"
	"voussoir/exact"
)

// num returns the number of a text.
func num(t *testing.T, s string) exact.Q {
	t.Helper()
	x, e := exact.Read(s)
	if e != api.OK {
		t.Fatalf("Read(%q): error %d", s, e)
	}
	return x
}

// nums returns the numbers of a text, with blanks between them.
func nums(t *testing.T, s string) []exact.Q {
	t.Helper()
	var list []exact.Q
	for _, word := range strings.Fields(s) {
		list = append(list, num(t, word))
	}
	return list
}

// text returns numbers as one text, as nums reads it.
func text(list []exact.Q) string {
	var words []string
	for _, x := range list {
		words = append(words, x.Text())
	}
	return strings.Join(words, " ")
}

// spansText returns spans as one text.
func spansText(list []exact.Span) string {
	var words []string
	for _, s := range list {
		words = append(words, s.Low.Text()+".."+s.High.Text())
	}
	return strings.Join(words, " ")
}

// joint returns a joint that is held in the directions of a text.
func joint(x, y int, held string) api.Joint {
	return api.Joint{X: x, Y: y, FixX: strings.Contains(held, "x"), FixY: strings.Contains(held, "y")}
}

// bar returns a bar that bears what those of the document's third example do.
func bar(a, b, stiff int) api.Bar { return api.Bar{A: a, B: b, Stiff: stiff, Tension: 6, Squash: 5} }

// pushed returns pushes of two numbers each.
func pushed(numbers ...int) []api.Push {
	var list []api.Push
	for i := 0; i < len(numbers); i += 2 {
		list = append(list, api.Push{X: numbers[i], Y: numbers[i+1]})
	}
	return list
}

// hanging returns the truss and the pushes of the document's first example.
func hanging() (api.Truss, []api.Push) {
	return api.Truss{
		Joints: []api.Joint{joint(0, 0, "xy"), joint(4, 0, "xy"), joint(0, 3, "")},
		Bars:   []api.Bar{bar(0, 2, 1), bar(1, 2, 1)},
	}, pushed(0, 0, 0, 0, 12, 0)
}

// alone returns the truss and the pushes of the document's fourth example.
func alone() (api.Truss, []api.Push) {
	return api.Truss{Joints: []api.Joint{joint(0, 0, "y")}}, pushed(1, 0)
}

// greatest returns a truss with as many joints and bars as there may be, and
// all numbers as great, or as small, as they may be.
func greatest() (api.Truss, []api.Push) {
	const m = api.MaxPlace
	s := api.Truss{Joints: []api.Joint{
		joint(-m, -m, "xy"), joint(m, -m, "y"), joint(m, m, ""), joint(-m, m, ""),
		joint(0, -m, ""), joint(m, 0, ""), joint(0, m, ""), joint(-m, 0, ""),
	}}
	for i := range api.MaxBars {
		b := api.Bar{A: i % 8, B: (i%8 + 1 + i/8*2) % 8, Stiff: api.MaxStiff, Tension: api.MaxBear, Squash: api.MaxBear}
		if i%3 == 0 {
			b = api.Bar{A: b.B, B: b.A, Stiff: 1}
		}
		s.Bars = append(s.Bars, b)
	}
	return s, pushed(1e6, -1e6, 1e6, 1e6, -1e6, -1e6, 1e6, -1e6, -1e6, 1e6, 1e6, 1e6, -1e6, -1e6, 1e6, 0)
}

// extremes returns integers that are outside of most ranges.
func extremes() []int { return []int{-1 << 63, 1<<63 - 1, -1 << 32, 1 << 32, -1 << 31, 1 << 31} }

// copied returns a truss that shares no memory with another one.
func copied(s api.Truss) api.Truss {
	return api.Truss{Joints: slices.Clone(s.Joints), Bars: slices.Clone(s.Bars)}
}

// wrongTrusses returns trusses that are not valid.
func wrongTrusses() []api.Truss {
	var list []api.Truss
	change := func(f func(s *api.Truss)) {
		s, _ := hanging()
		f(&s)
		list = append(list, s)
	}
	for _, place := range append(extremes(), -api.MaxPlace-1, api.MaxPlace+1) {
		change(func(s *api.Truss) { s.Joints[1].X = place })
		change(func(s *api.Truss) { s.Joints[2].Y = place })
	}
	for _, number := range append(extremes(), -1, 3, 100) {
		change(func(s *api.Truss) { s.Bars[0].A = number })
		change(func(s *api.Truss) { s.Bars[1].B = number })
	}
	for _, stiff := range append(extremes(), 0, -1, api.MaxStiff+1) {
		change(func(s *api.Truss) { s.Bars[0].Stiff = stiff })
	}
	for _, bear := range append(extremes(), -1, api.MaxBear+1) {
		change(func(s *api.Truss) { s.Bars[0].Tension = bear })
		change(func(s *api.Truss) { s.Bars[1].Squash = bear })
	}
	change(func(s *api.Truss) { s.Bars[0].B = 0 })
	change(func(s *api.Truss) { s.Bars[1].A = 2 })
	change(func(s *api.Truss) { s.Joints[1].X = 0 })
	change(func(s *api.Truss) { s.Joints[2] = joint(4, 0, "") })
	change(func(s *api.Truss) { s.Joints = s.Joints[:2] })
	change(func(s *api.Truss) { s.Joints = nil })
	many, _ := greatest()
	joints := copied(many)
	joints.Joints = append(joints.Joints, joint(0, 0, ""))
	bars := copied(many)
	bars.Bars = append(bars.Bars, bar(0, 1, 1))
	return append(list, joints, bars)
}

// wrongPushes returns lists of pushes that are not valid for a truss of three joints.
func wrongPushes() [][]api.Push {
	list := [][]api.Push{nil, pushed(), pushed(1, 0), pushed(0, 0, 0, 0), pushed(0, 0, 0, 0, 0, 0, 0, 0)}
	for _, x := range append(extremes(), -api.MaxPush-1, api.MaxPush+1) {
		list = append(list, pushed(0, 0, 0, 0, x, 0), pushed(0, x, 0, 0, 12, 0))
	}
	return list
}

// wrongCalls calls a function with all that makes a truss or pushes not valid,
// and the last time with what is valid.
func wrongCalls(call func(what string, s api.Truss, pushes []api.Push, valid bool)) {
	s, pushes := hanging()
	for i, wrong := range wrongTrusses() {
		list := pushes
		if len(wrong.Joints) != len(list) {
			list = make([]api.Push, len(wrong.Joints))
		}
		call("wrong truss "+exact.Int(int64(i)).Text(), wrong, list, false)
	}
	for i, wrong := range wrongPushes() {
		call("wrong pushes "+exact.Int(int64(i)).Text(), s, wrong, false)
	}
	call("what is valid", s, pushes, true)
}

// someInt returns an integer from low to high, and now and then one of the two.
func someInt(r *rand.Rand, low, high int) int {
	switch r.Intn(8) {
	case 0:
		return low
	case 1:
		return high
	}
	return low + r.Intn(high-low+1)
}

// someTruss returns a truss at random. Its joints are on a grid, often a small
// one, so that many are in a line; some of its bars join the same joints.
func someTruss(r *rand.Rand) api.Truss {
	var s api.Truss
	reach := []int{1, 2, 5, api.MaxPlace}[r.Intn(4)]
	for range r.Intn(min(api.MaxJoints, reach*4) + 1) {
		j := joint(someInt(r, -reach, reach), someInt(r, -reach, reach), []string{"", "", "x", "y", "xy", "xy"}[r.Intn(6)])
		same := func(o api.Joint) bool { return o.X == j.X && o.Y == j.Y }
		if !slices.ContainsFunc(s.Joints, same) {
			s.Joints = append(s.Joints, j)
		}
	}
	if len(s.Joints) < 2 {
		return s
	}
	stiff, bear := []int{3, 100, api.MaxStiff}[r.Intn(3)], []int{2, 10, api.MaxBear}[r.Intn(3)]
	for range r.Intn(api.MaxBars + 1) {
		b := api.Bar{A: r.Intn(len(s.Joints)), B: r.Intn(len(s.Joints)), Stiff: someInt(r, 1, stiff), Tension: someInt(r, 0, bear), Squash: someInt(r, 0, bear)}
		if b.A != b.B {
			s.Bars = append(s.Bars, b)
		}
	}
	return s
}

// somePushes returns pushes at random for a truss.
func somePushes(r *rand.Rand, s api.Truss) []api.Push {
	list := make([]api.Push, len(s.Joints))
	most := []int{1, 12, api.MaxPush}[r.Intn(3)]
	for i := range list {
		if r.Intn(3) > 0 {
			list[i] = api.Push{X: someInt(r, -most, most), Y: someInt(r, -most, most)}
		}
	}
	return list
}

// someHigh returns greater stiffnesses for at most MaxLoose bars.
func someHigh(r *rand.Rand, s api.Truss, loose int) []int {
	var high []int
	for _, b := range s.Bars {
		high = append(high, b.Stiff)
	}
	for _, i := range r.Perm(len(high))[:min(loose, len(high))] {
		high[i] = someInt(r, high[i], []int{min(high[i]+5, api.MaxStiff), api.MaxStiff}[r.Intn(2)])
	}
	return high
}

// someQ returns a number near 0, and now and then a very long one.
func someQ(r *rand.Rand) exact.Q {
	x, _ := exact.Of(int64(r.Intn(13)-6), int64(1+r.Intn(3)))
	if r.Intn(12) == 0 {
		return x.Times(exact.Int(r.Int63())).Times(exact.Int(r.Int63()))
	}
	return x
}

// rigid returns a truss at random that can not move, and pushes. It asks for a
// number of free directions, as most such trusses would have none.
func rigid(r *rand.Rand) (api.Truss, []api.Push) {
	least := r.Intn(9)
	for {
		if s := someTruss(r); len(freeOf(s)) >= least && rank(pullTable(s)) == len(freeOf(s)) {
			return s, somePushes(r, s)
		}
	}
}
