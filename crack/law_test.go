package crack_test

import (
	"math/rand"
	"testing"

	"voussoir/api"
	"voussoir/crack"
	"voussoir/exact"
)

// steep is the law of the document's example.
const steep = "0:1..2 10:2..5"

func TestP7_1CheckLaw(t *testing.T) {
	list := [][]crack.Step{longLaw(api.MaxGrowth), longLaw(api.MaxGrowth - 1), longLaw(1)}
	for _, s := range []string{
		steep, "0:0..0", "0:1..2", "0:2..2", "0:1..2 10:1..2", "0:1..2 10:1..3", "0:1..2 10:2..2", "0:1..2 10:2..2 11:2..2", "0:0..1 1/1000:5..9",
		"0:0..1/340282366920938463463374607431768211455 1/340282366920938463463374607431768211455:1..340282366920938463463374607431768211455",
		"0:1..9 10:8..9",
	} {
		list = append(list, law(s))
	}
	for _, l := range list {
		if e := crack.CheckLaw(l); e != api.OK {
			t.Errorf("%s: error %d", lawText(l), e)
		}
	}
	for _, l := range wrongLaws() {
		if e := crack.CheckLaw(l); e != api.ErrArg {
			t.Errorf("%s: error %d", lawText(l), e)
		}
	}
}

func TestP7_1Some(t *testing.T) {
	r := rand.New(rand.NewSource(71))
	for range 200 {
		l := someLaw(r, 1+r.Intn(8))
		if e := crack.CheckLaw(l); e != api.OK {
			t.Fatalf("%s: error %d", lawText(l), e)
		}
		low, high := l[len(l)-1].Grow.Low, l[len(l)-1].Grow.High
		more := high.Plus(num("1/9"))
		for _, s := range []crack.Step{
			{From: l[len(l)-1].From, Grow: exact.Span{Low: low, High: high}}, {From: num("9999"), Grow: exact.Span{Low: low.Minus(num("1/9")), High: high}},
			{From: num("9999"), Grow: exact.Span{Low: low, High: high.Minus(num("1/9"))}}, {From: num("9999"), Grow: exact.Span{Low: more, High: high}},
			{From: num("-1"), Grow: exact.Span{Low: low, High: high}},
		} {
			wrong := append(l[:len(l):len(l)], s)
			if e := crack.CheckLaw(wrong); e != api.ErrArg {
				t.Fatalf("%s: error %d", lawText(wrong), e)
			}
		}
	}
}

// checkGrow checks what Grow returns.
func checkGrow(t *testing.T, l []crack.Step, size exact.Span, periods int, grid exact.Q, want string) {
	t.Helper()
	s, e := crack.Grow(l, size, periods, grid)
	if e != api.OK || spanText(s) != want {
		t.Errorf("%s by %s, %d periods, grid %s: %s, error %d, not %s", spanText(size), lawText(l), periods, grid.Text(), spanText(s), e, want)
	}
}

func TestP7_2Grow(t *testing.T) {
	for _, c := range []struct {
		law, size  string
		periods    int
		grid, want string
	}{
		{steep, "8..9", 0, "0", "8..9"}, {steep, "8..9", 1, "0", "9..11"}, {steep, "8..9", 2, "0", "10..16"}, {steep, "8..9", 3, "0", "12..21"},
		{steep, "10..10", 1, "0", "12..15"}, {steep, "99/10..10", 1, "0", "109/10..15"}, {steep, "9..99/10", 1, "0", "10..119/10"}, {steep, "0..0", 1, "0", "1..2"},
		{steep, "0..1000", 1, "0", "1..1005"},
		{"0:1..2 10:3..4 11:5..6 20:7..8", "10..11", 1, "0", "13..17"}, {"0:1..2 10:3..4 11:5..6 20:7..8", "3..20", 1, "0", "4..28"},
		{"0:1..2 10:3..4 11:5..6 20:7..8", "21/2..39/2", 1, "0", "27/2..51/2"},
		{"0:0..0", "1/3..1/2", 200, "0", "1/3..1/2"}, {"0:1/3..1/2", "0..0", 200, "0", "200/3..100"}, {"0:0..2", "0..0", 200, "0", "0..400"},
		// The grid counts in each period, and not before the first one.
		{"0:0..1/3", "0..0", 1, "1", "0..1"}, {"0:0..1/3", "0..0", 2, "1", "0..2"}, {"0:0..1/3", "0..0", 200, "1", "0..200"}, {"0:0..1/3", "0..0", 3, "0", "0..1"},
		{"0:0..1/3", "1/2..1/2", 0, "1", "1/2..1/2"}, {"0:2/3..2/3", "0..0", 9, "1", "0..9"}, {"0:4/3..4/3", "0..0", 3, "1", "3..6"},
		{"0:1..1", "1/2..3/4", 1, "1/4", "3/2..7/4"}, {"0:1..1", "1/2..3/4", 1, "2/7", "10/7..2"}, {"0:1..1", "1/2..3/4", 1, "100", "0..100"},
		{"0:1..1", "1..1", 1, "2", "2..2"}, {"0:0..0", "3..3", 1, "2", "2..4"}, {"0:0..0", "3..3", 5, "2", "2..4"},
		{steep, "0..9", 2, "10", "0..30"},
	} {
		checkGrow(t, law(c.law), span(c.size), c.periods, num(c.grid), c.want)
	}
}

func TestP7_2Some(t *testing.T) {
	r := rand.New(rand.NewSource(72))
	for i := range 400 {
		l, size, grid, periods := someLaw(r, 1+r.Intn(6)), someSize(r, 20), someGrid(r), r.Intn(9)
		if i%40 == 0 {
			periods = api.MaxAhead - r.Intn(5)
		}
		s, e := crack.Grow(l, size, periods, grid)
		want := grow(l, endsOf(size), periods, rat(grid))
		if e != api.OK || !want.are(s) {
			t.Fatalf("%s by %s, %d periods, grid %s: %s, error %d, not %s", spanText(size), lawText(l), periods, grid.Text(), spanText(s), e, want.text())
		}
	}
}

func TestP7_2Errors(t *testing.T) {
	refuse := func(l []crack.Step, size exact.Span, periods int, grid string, want api.Errno) {
		t.Helper()
		if s, e := crack.Grow(l, size, periods, num(grid)); e != want || !isZero(s) {
			t.Errorf("%s by %s, %d periods, grid %s: error %d, not %d; %s", spanText(size), lawText(l), periods, grid, e, want, spanText(s))
		}
	}
	for _, l := range wrongLaws() {
		refuse(l, span("1..2"), 1, "0", api.ErrArg)
		refuse(l, span("2..1"), -1, "-1", api.ErrArg)
	}
	for _, s := range wrongSizes() {
		refuse(law(steep), s, 1, "0", api.ErrArg)
		refuse(law(steep), s, 0, "0", api.ErrArg)
		refuse(law(steep), s, 201, "-1", api.ErrArg)
	}
	for _, periods := range append(extremeInts(), api.MaxAhead+1) {
		refuse(law(steep), span("1..2"), periods, "0", api.ErrRange)
		refuse(law(steep), span("1..2"), periods, "1", api.ErrRange)
	}
	for _, grid := range []string{"-1", "-1/1000", "-1/340282366920938463463374607431768211456"} {
		refuse(law(steep), span("1..2"), 0, grid, api.ErrRange)
		refuse(law(steep), span("1..2"), 1, grid, api.ErrRange)
	}
}

// checkDeadline checks what Deadline returns.
func checkDeadline(t *testing.T, l []crack.Step, size exact.Span, critical, grid exact.Q, want int) {
	t.Helper()
	n, e := crack.Deadline(l, size, critical, grid)
	if e != api.OK || n != want {
		t.Errorf("%s by %s to %s, grid %s: %d, error %d, not %d", spanText(size), lawText(l), critical.Text(), grid.Text(), n, e, want)
	}
}

func TestP7_3Deadline(t *testing.T) {
	for _, c := range []struct {
		law, size, critical, grid string
		want                      int
	}{
		{steep, "8..9", "16", "0", 2}, {steep, "8..9", "15", "0", 1}, {steep, "8..9", "9", "0", 0}, {steep, "8..9", "11", "0", 1}, {steep, "8..9", "109/10", "0", 0},
		{steep, "8..9", "159999/10000", "0", 1}, {steep, "8..9", "209/10", "0", 2}, {steep, "8..9", "21", "0", 3},
		{"0:0..0", "0..0", "0", "0", 200}, {"0:0..0", "8..9", "9", "0", 200}, {"0:1..1", "0..0", "198", "0", 198}, {"0:1..1", "0..0", "199", "0", 199},
		{"0:1..1", "0..0", "200", "0", 200}, {"0:1..1", "0..0", "201", "0", 200}, {"0:1..1", "0..0", "340282366920938463463374607431768211456", "0", 200},
		{"0:0..1", "0..0", "3", "0", 3}, {"0:1..2", "1..2", "5", "0", 1}, {"0:1..2", "3..4", "5", "0", 0},
		{"0:0..1/3", "0..0", "1", "1", 1}, {"0:0..1/3", "0..0", "1", "0", 3}, {"0:0..1/3", "1/2..1/2", "1/2", "1", 0}, {"0:0..1/3", "0..0", "1/2", "1", 0},
		{"0:0..0", "3..3", "3", "2", 0}, {"0:0..0", "3..3", "4", "2", 200}, {"0:0..0", "3..3", "3", "3", 200},
	} {
		checkDeadline(t, law(c.law), span(c.size), num(c.critical), num(c.grid), c.want)
	}
}

func TestP7_3Some(t *testing.T) {
	r := rand.New(rand.NewSource(73))
	for range 100 {
		l, size, grid := someLaw(r, 1+r.Intn(6)), someSize(r, 20), someGrid(r)
		critical := size.High.Plus(someQ(r, 0, 40))
		checkDeadline(t, l, size, critical, grid, deadline(l, endsOf(size), rat(critical), rat(grid)))
	}
}

func TestP7_3Errors(t *testing.T) {
	refuse := func(l []crack.Step, size exact.Span, critical, grid string, want api.Errno) {
		t.Helper()
		if n, e := crack.Deadline(l, size, num(critical), num(grid)); e != want || n != 0 {
			t.Errorf("%s by %s to %s, grid %s: error %d, not %d; %d", spanText(size), lawText(l), critical, grid, e, want, n)
		}
	}
	for _, l := range wrongLaws() {
		refuse(l, span("1..2"), "9", "0", api.ErrArg)
		refuse(l, span("1..2"), "1", "-1", api.ErrArg)
	}
	for _, s := range wrongSizes() {
		refuse(law(steep), s, "9", "0", api.ErrArg)
		refuse(law(steep), s, "-9", "-1", api.ErrArg)
	}
	for _, grid := range []string{"-1", "-1/340282366920938463463374607431768211456"} {
		refuse(law(steep), span("1..2"), "9", grid, api.ErrRange)
		refuse(law(steep), span("1..2"), "1", grid, api.ErrRange)
	}
	for _, critical := range []string{"1", "0", "-1", "19999/10000", "-340282366920938463463374607431768211456"} {
		refuse(law(steep), span("1..2"), critical, "0", api.ErrOver)
		refuse(law(steep), span("1..2"), critical, "1", api.ErrOver)
	}
	refuse(law("0:0..0"), span("0..0"), "-1/1000", "0", api.ErrOver)
}
