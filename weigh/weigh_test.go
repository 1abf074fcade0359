package weigh_test

import (
	"math/big"
	"math/rand"
	"slices"
	"testing"

	"voussoir/api"
	"voussoir/exact"
	"voussoir/linear"
	"voussoir/weigh"
)

func TestP5_1CheckSite(t *testing.T) {
	for _, s := range []weigh.Site{
		site(tent, strains), site(tent, ""), site("0@0 10@0", "5:0..0"), site(tent, "5:-2..-1 5:-2..-1 -7:1/3..1/2 100:7..7"),
		{Line: longLine(api.MaxPoints), Readings: read(api.MaxStrains)}, {Line: line(tent), Readings: read(api.MaxStrains - 1)},
		site(tent, "5:340282366920938463463374607431768211455..340282366920938463463374607431768211456"),
	} {
		if e := weigh.CheckSite(s); e != api.OK {
			t.Errorf("%s: error %d", siteText(s), e)
		}
	}
	for i, s := range wrongSites() {
		if e := weigh.CheckSite(s); e != api.ErrArg {
			t.Errorf("wrong site %d: error %d", i, e)
		}
	}
}

func TestP5_1CheckPattern(t *testing.T) {
	l := patterns(pair, singles, "1; ; 0..0", "1; ; 5..5", "1; ; 1/3..1/2", "6; 1 2 3 4 5; 0..20", "5 1; 1 0 3 4 5; 0..20", "1 5; 1 0 0 0 0; 0..20", "1 2 3; 1 2 3 4 5; 3..20")
	for _, p := range append(l, train(api.MaxTrain), train(api.MaxTrain-1), train(1), weigh.Pattern{Vehicles: []int{1}}) {
		if e := weigh.CheckPattern(p); e != api.OK {
			t.Errorf("%s: error %d", patternText(p), e)
		}
	}
	for i, p := range wrongPatterns() {
		if e := weigh.CheckPattern(p); e != api.ErrArg {
			t.Errorf("wrong pattern %d: error %d", i, e)
		}
	}
}

func TestP5_2Rows(t *testing.T) {
	for _, c := range []struct {
		readings, pattern string
		want              []string
	}{
		{"5:11..12", pair, []string{"1 0 <= 20", "-1 0 <= 0", "0 1 <= 20", "0 -1 <= 0", "1 1/5 <= 12", "-1 -1/5 <= -11"}},
		{"5:11..12", singles, []string{"1 0 <= 20", "-1 0 <= 0", "0 1 <= 20", "0 -1 <= 0", "1 1/5 <= 12", "-1 -1/5 <= -11"}},
		{"9:-1..1/2 15:0..0", "2; 4; 3..7/2", []string{"1 0 <= 7/2", "-1 0 <= -3", "0 1 <= 7/2", "0 -1 <= -3", "1/5 1 <= 1/2", "-1/5 -1 <= 1", "0 0 <= 0", "0 0 <= 0"}},
		{"", "1; ; 0..20", []string{"1 <= 20", "-1 <= 0"}},
		{"5:1..2", "1; ; 4..20", []string{"1 <= 20", "-1 <= -4", "1 <= 2", "-1 <= -1"}},
		{"6:1..2", "1 2; 0 3; 1..2", []string{"1 0 0 <= 2", "-1 0 0 <= -1", "0 1 0 <= 2", "0 -1 0 <= -1", "0 0 1 <= 2", "0 0 -1 <= -1", "4/5 4/5 3/5 <= 2", "-4/5 -4/5 -3/5 <= -1"}},
	} {
		rows, e := weigh.Rows(site(tent, c.readings), pattern(c.pattern))
		if got := rowTexts(rows); e != api.OK || !slices.Equal(got, c.want) {
			t.Errorf("%s of %s: error %d, %q", c.readings, c.pattern, e, got)
		}
	}
}

func TestP5_2RowsErrors(t *testing.T) {
	refuses(t, false, func(s weigh.Site, l []weigh.Pattern) (bool, api.Errno) {
		rows, e := weigh.Rows(s, l[0])
		return len(rows) == 0, e
	})
}

// TestP5_2RowsOfMany compares rows with those of math/big, one by one, and what
// loads keep with what agrees.
func TestP5_2RowsOfMany(t *testing.T) {
	r := rand.New(rand.NewSource(52))
	both := [2]int{}
	for range 400 {
		c := someScene(r, api.MaxTrain)
		p := c.l[0]
		rows, e := weigh.Rows(c.s, p)
		want := halves(c.s, p)
		if e != api.OK || len(rows) != len(want) {
			t.Fatalf("error %d, %d rows: %s", e, len(rows), c.text())
		}
		for i, row := range rows {
			if rat(row.Most).Cmp(want[i].most) != 0 || !slices.EqualFunc(rats(row.Coefs), want[i].coefs, func(x, y *big.Rat) bool { return x.Cmp(y) == 0 }) {
				t.Fatalf("row %d is %s: %s", i, rowTexts(rows)[i], c.text())
			}
		}
		for range 3 {
			loads := someLoads(r, p)
			if r.Intn(4) == 0 {
				loads[r.Intn(len(loads))] = someQ(r, -3, 30)
			}
			want := agreeing(c.s, p, rats(loads))
			if keeps, e := linear.Keeps(rows, loads); e != api.OK || keeps != want {
				t.Fatalf("%s: %v, error %d: %s", texts(loads), keeps, e, c.text())
			}
			both[boolInt(want)]++
		}
	}
	if both[0] < 100 || both[1] < 100 {
		t.Error("too few of a kind", both)
	}
}

// boolInt returns 1 for true, otherwise 0.
func boolInt(b bool) int {
	if b {
		return 1
	}
	return 0
}

func TestP5_3Agree(t *testing.T) {
	for _, c := range []struct {
		readings string
		l        []weigh.Pattern
		want     []bool
	}{
		{strains, patterns(pair), []bool{true}},
		{strains, patterns(pair, "2; 4; 0..9", singles, "2; 0; 0..20", "1; ; 0..20"), []bool{true, false, true, false, false}},
		{strains, nil, nil},
		{"", patterns(pair, "1; ; 7..7"), []bool{true, true}},
		{"5:12..12", patterns("1; ; 0..12", "1; ; 0..35/3", "1; ; 12..20", "1; ; 37/3..20"), []bool{true, false, true, false}}, // the ends agree
		{"11:0..0", patterns("1; ; 5..7", "2; 4; 5..7", "2; 4; 0..7"), []bool{true, false, true}},
		{"11:1/100..1", patterns("1; ; 0..20", "2; 4; 0..20"), []bool{false, true}},
		{"5:-1..-1/9", patterns(pair), []bool{false}},
		{"5:1..2 5:2..3", patterns(pair, "1; ; 0..20"), []bool{true, true}},
		{"5:1..2 5:3..4", patterns(pair, "1; ; 0..20"), []bool{false, false}},
	} {
		if got, e := weigh.Agree(site(tent, c.readings), c.l); e != api.OK || !slices.Equal(got, c.want) {
			t.Errorf("%s: error %d, %v, not %v", c.readings, e, got, c.want)
		}
	}
	most := slices.Repeat(patterns(pair), api.MaxPatterns)
	if got, e := weigh.Agree(site(tent, strains), most); e != api.OK || !slices.Equal(got, slices.Repeat([]bool{true}, api.MaxPatterns)) {
		t.Errorf("as many patterns as there may be: error %d, %v", e, got)
	}
}

func TestP5_3AgreeErrors(t *testing.T) {
	refuses(t, true, func(s weigh.Site, l []weigh.Pattern) (bool, api.Errno) {
		agree, e := weigh.Agree(s, l)
		return len(agree) == 0, e
	})
}

func TestP5_3AgreeOfMany(t *testing.T) {
	r := rand.New(rand.NewSource(53))
	both := [2]int{}
	for range 250 {
		c := someScene(r, 3)
		agree, e := weigh.Agree(c.s, c.l)
		if e != api.OK || len(agree) != len(c.l) {
			t.Fatalf("error %d, %v: %s", e, agree, c.text())
		}
		for i, p := range c.l {
			if agree[i] != possible(c.s, p) {
				t.Fatalf("pattern %d: %v: %s", i, agree[i], c.text())
			}
			both[boolInt(agree[i])]++
		}
	}
	if both[0] < 50 || both[1] < 50 {
		t.Error("too few of a kind", both)
	}
}

func TestP5_4Weigh(t *testing.T) {
	for _, c := range []struct{ readings, pattern, want string }{
		{"5:11..12", pair, "7..12 0..20 | 11..28"},
		{strains, pair, "215/24..245/24 215/24..245/24 | 55/3..20"},
		{strains, singles, "215/24..245/24 215/24..245/24 | 215/24..245/24 215/24..245/24"},
		{"", "1 2; 4 0; 3..7/2", "3..7/2 3..7/2 3..7/2 | 3..7/2 6..7"},
		{"", "2 1; 4 0; 3..7/2", "3..7/2 3..7/2 3..7/2 | 6..7 3..7/2"},
		{"", "1; ; 0..0", "0..0 | 0..0"},
		{"5:12..12", "1; ; 0..20", "12..12 | 12..12"},
		{"5:3..30", "1; ; 4..20", "4..20 | 4..20"},
		{"5:3..4", "1; ; 4..20", "4..4 | 4..4"},
		{"5:3..4", "3; 0 0; 0..20", "0..4 0..4 0..4 | 3..4"},
		{"5:3..4", "1 2; 0 0; 0..20", "0..4 0..4 0..4 | 0..4 0..4"},
		{"5:10..10 6:10..10", "2 1; 1 20; 1..20", "50/9..50/9 50/9..50/9 1..20 | 100/9..100/9 1..20"},
	} {
		w, e := weigh.Weigh(site(tent, c.readings), pattern(c.pattern))
		if got := weightsText(w); c.want != got || e != api.OK {
			t.Errorf("%s of %s: error %d, %s", c.readings, c.pattern, e, got)
		}
	}
}

// noWeights reports whether weights are the zero value.
func noWeights(w weigh.Weights) bool { return len(w.Axles) == 0 && len(w.Vehicles) == 0 }

func TestP5_4WeighErrors(t *testing.T) {
	refuses(t, false, func(s weigh.Site, l []weigh.Pattern) (bool, api.Errno) {
		w, e := weigh.Weigh(s, l[0])
		return noWeights(w), e
	})
	for _, c := range [][2]string{{strains, "2; 4; 0..9"}, {strains, "1; ; 0..20"}, {"5:1..2 5:3..4", pair}, {"5:-1..-1/9", pair}, {"11:1/100..1", "1; ; 0..20"}} {
		if w, e := weigh.Weigh(site(tent, c[0]), pattern(c[1])); e != api.ErrExcluded || !noWeights(w) {
			t.Errorf("%s of %s: error %d, %s", c[0], c[1], e, weightsText(w))
		}
	}
}

// spanOf returns the span of a sum at some points.
func spanOf(points [][]*big.Rat, coefs []*big.Rat) exact.Span {
	var low, high *big.Rat
	for _, point := range points {
		x := dot(coefs, point)
		if low == nil || x.Cmp(low) < 0 {
			low = x
		}
		if high == nil || x.Cmp(high) > 0 {
			high = x
		}
	}
	return exact.Span{Low: num(low.RatString()), High: num(high.RatString())}
}

// weighed is what P5.4 says of Weigh, from the corners of what the rows leave.
func weighed(p weigh.Pattern, points [][]*big.Rat) weigh.Weights {
	var w weigh.Weights
	n, from := len(p.Gaps)+1, 0
	for i := range n {
		w.Axles = append(w.Axles, spanOf(points, ones(n, i, 1)))
	}
	for _, count := range p.Vehicles {
		w.Vehicles = append(w.Vehicles, spanOf(points, ones(n, from, count)))
		from += count
	}
	return w
}

func TestP5_4WeighOfMany(t *testing.T) {
	r := rand.New(rand.NewSource(54))
	both := [2]int{}
	for range 250 {
		c := someScene(r, 3)
		p := c.l[0]
		points := corners(halves(c.s, p), len(p.Gaps)+1)
		w, e := weigh.Weigh(c.s, p)
		both[boolInt(len(points) > 0)]++
		switch {
		case len(points) == 0 && (e != api.ErrExcluded || !noWeights(w)):
			t.Fatalf("error %d, %s: %s", e, weightsText(w), c.text())
		case len(points) > 0 && (e != api.OK || weightsText(w) != weightsText(weighed(p, points))):
			t.Fatalf("error %d, %s, not %s: %s", e, weightsText(w), weightsText(weighed(p, points)), c.text())
		}
	}
	if both[0] < 40 || both[1] < 80 {
		t.Error("too few of a kind", both)
	}
}

// TestP5_4Great weighs trains of as many axles, at sites with as many readings
// as there may be: at each end of a span there are loads, and beyond it none.
func TestP5_4Great(t *testing.T) {
	r := rand.New(rand.NewSource(541))
	for range 3 {
		p := somePattern(r, api.MaxTrain)
		s := weigh.Site{Line: someLine(r, api.MaxPoints)}
		s.Readings = someReadings(r, s.Line, p, someLoads(r, p), api.MaxStrains)
		w, e := weigh.Weigh(s, p)
		rows, _ := weigh.Rows(s, p)
		if e != api.OK || len(rows) != 2*(api.MaxTrain+api.MaxStrains) || len(w.Axles) != api.MaxTrain || len(w.Vehicles) != len(p.Vehicles) {
			t.Fatalf("error %d, %s: %s", e, weightsText(w), patternText(p))
		}
		from := 0
		for i := range api.MaxTrain {
			checkEnds(t, rows, w.Axles[i], i, 1)
		}
		for i, count := range p.Vehicles {
			checkEnds(t, rows, w.Vehicles[i], from, count)
			from += count
		}
	}
}

// checkEnds checks that loads keep rows with a sum at each end of a span, and
// that none do with a sum beyond it.
func checkEnds(t *testing.T, rows []linear.Row, s exact.Span, from, count int) {
	t.Helper()
	sum := make([]exact.Q, api.MaxTrain)
	opposite := make([]exact.Q, api.MaxTrain)
	for i := range count {
		sum[from+i], opposite[from+i] = exact.Int(1), exact.Int(-1)
	}
	tiny := num("1/1000000000000")
	possible := func(coefs []exact.Q, most exact.Q) bool {
		a, e := linear.Solve(linear.Program{Goal: make([]exact.Q, api.MaxTrain), Rows: append(slices.Clone(rows), linear.Row{Coefs: coefs, Most: most})})
		return e == api.OK && a.Outcome != api.Empty
	}
	if !possible(sum, s.Low) || possible(sum, s.Low.Minus(tiny)) || !possible(opposite, s.High.Neg()) || possible(opposite, s.High.Neg().Minus(tiny)) {
		t.Errorf("%d axles from %d on: %s", count, from, spanTexts([]exact.Span{s}))
	}
}
