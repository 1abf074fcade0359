package linear_test

import (
	"math/rand"
	"testing"

	"voussoir/api"
	"voussoir/exact"
	"voussoir/linear"
)

func TestP2_1Check(t *testing.T) {
	good, _ := edges()
	for _, n := range good {
		for _, m := range []int{0, 1, 2, api.MaxRows - 1, api.MaxRows} {
			p := linear.Program{Goal: zeros(n), Rows: make([]linear.Row, m)}
			for i := range p.Rows {
				p.Rows[i].Coefs = zeros(n)
			}
			if e := linear.Check(p); e != api.OK {
				t.Errorf("%d unknowns, %d rows: error %d", n, m, e)
			}
		}
		for i, list := range wrong(t, n) {
			if e := linear.Check(linear.Program{Goal: zeros(n), Rows: list}); e != api.ErrArg {
				t.Errorf("%d unknowns, wrong rows %d: error %d", n, i, e)
			}
		}
	}
	for _, n := range []int{api.MaxUnknowns + 1, 1000} {
		for _, list := range [][]linear.Row{nil, {{Coefs: zeros(n)}}, {{}}} {
			if e := linear.Check(linear.Program{Goal: zeros(n), Rows: list}); e != api.ErrArg {
				t.Errorf("%d unknowns: error %d", n, e)
			}
		}
	}
	if e := linear.Check(linear.Program{Rows: []linear.Row{{}, {Coefs: []exact.Q{}}}}); e != api.OK {
		t.Errorf("nil and empty: error %d", e)
	}
}

func TestP2_3Examples(t *testing.T) {
	for _, c := range []struct {
		goal    string
		rows    []string
		outcome api.Outcome
		value   string
	}{
		{"1 1", []string{"1 2 <= 4", "3 1 <= 6", "-1 0 <= 0", "0 -1 <= 0"}, api.Solved, "14/5"},
		{"0", []string{"1 <= 1", "-1 <= -2"}, api.Empty, "0"},
		{"1", nil, api.Unending, "0"},
		{"-1", nil, api.Unending, "0"},
		{"0", nil, api.Solved, "0"},
		{"0 0 0", nil, api.Solved, "0"},
		{"0 0 1", nil, api.Unending, "0"},
		{"", nil, api.Solved, "0"},
		{"", []string{"<= 0", "<= 5"}, api.Solved, "0"},
		{"", []string{"<= 1", "<= -1/7", "<= 0"}, api.Empty, "0"},
		{"1", []string{"0 <= -1"}, api.Empty, "0"},
		{"1", []string{"0 <= 0"}, api.Unending, "0"},
		{"1", []string{"1 <= 3"}, api.Solved, "3"},
		{"-1", []string{"1 <= 3"}, api.Unending, "0"},
		{"-1", []string{"1 <= 3", "-2 <= 7"}, api.Solved, "7/2"},
		{"1", []string{"1 <= -3"}, api.Solved, "-3"},
		{"1", []string{"1 <= 3", "1 <= 3", "2 <= 6"}, api.Solved, "3"},
		{"1 1", []string{"1 1 <= 5", "-1 -1 <= -5"}, api.Solved, "5"},
		{"1 -1", []string{"1 1 <= 5", "-1 -1 <= -5"}, api.Unending, "0"},
		{"1 1", []string{"1 1 <= 5", "-1 -1 <= -6"}, api.Empty, "0"},
		{"1 0", []string{"1 -1 <= 0", "-1 1 <= 0"}, api.Unending, "0"},
		{"1 -1", []string{"1 -1 <= 2", "-1 1 <= 0"}, api.Solved, "2"},
		{"0 0", []string{"1 1 <= -1", "-1 0 <= 0"}, api.Solved, "0"},
		{"1 1", []string{"1 0 <= 1", "0 1 <= 1", "-1 -1 <= -2"}, api.Solved, "2"},
		{"1 1", []string{"1 0 <= 1", "0 1 <= 1", "-1 -1 <= -2", "1 -1 <= -1"}, api.Empty, "0"},
		{"1/3 -2/7", []string{"1/2 1/3 <= 1/5", "-1/11 0 <= 3/13", "1/17 -1/19 <= 1/23"}, api.Solved, "10474/42987"},
	} {
		p := linear.Program{Goal: nums(t, c.goal), Rows: rows(t, c.rows...)}
		a := solve(t, p)
		if a.Outcome != c.outcome || a.Value.Text() != c.value {
			t.Errorf("%s\nis %s, not %d with the value %s", programText(p), answerText(a), c.outcome, c.value)
		}
	}
}

func TestP2_3TheOnlyAnswer(t *testing.T) {
	a := solve(t, linear.Program{Goal: nums(t, "1 1"), Rows: corner(t)})
	if text(a.Point) != "8/5 6/5" || text(a.Weights) != "2/5 1/5 0 0" {
		t.Error(answerText(a))
	}
}

func TestP2_3WrongPrograms(t *testing.T) {
	good, bad := edges()
	for _, n := range good {
		for i, list := range wrong(t, n) {
			if a, e := linear.Solve(linear.Program{Goal: zeros(n), Rows: list}); e != api.ErrArg || answerText(a) != answerText(linear.Answer{}) {
				t.Errorf("%d unknowns, wrong rows %d: error %d, %s", n, i, e, answerText(a))
			}
		}
	}
	for _, n := range bad {
		if n < 0 || n > 1<<20 {
			continue
		}
		if a, e := linear.Solve(linear.Program{Goal: zeros(n)}); e != api.ErrArg || answerText(a) != answerText(linear.Answer{}) {
			t.Errorf("%d unknowns: error %d, %s", n, e, answerText(a))
		}
	}
}

func TestP2_3Random(t *testing.T) {
	r := rand.New(rand.NewSource(23))
	var count [4]int
	for range 6000 {
		n := r.Intn(6)
		p := linear.Program{Goal: someNumbers(r, r.Intn(5), n), Rows: someRows(r, n, r.Intn(12))}
		count[solve(t, p).Outcome]++
	}
	for outcome := api.Solved; outcome <= api.Unending; outcome++ {
		if count[outcome] < 500 {
			t.Errorf("too few programs with the outcome %d: %d", outcome, count[outcome])
		}
	}
}

// TestP2_3Circles has programs on which careless pivots go round in circles.
func TestP2_3Circles(t *testing.T) {
	for _, c := range []struct {
		goal  string
		rows  []string
		value string
	}{
		{"3/4 -20 1/2 -6", []string{"1/4 -8 -1 9 <= 0", "1/2 -12 -1/2 3 <= 0", "0 0 1 0 <= 1"}, "5/4"},
		{"3/4 -150 1/50 -6", []string{"1/4 -60 -1/25 9 <= 0", "1/2 -90 -1/50 3 <= 0", "0 0 1 0 <= 1"}, "1/20"},
		{"10 -57 -9 -24", []string{"1/2 -11/2 -5/2 9 <= 0", "1/2 -3/2 -1/2 1 <= 0", "1 0 0 0 <= 1"}, "1"},
		{"2 3 -1 -12", []string{"-2 -9 1 9 <= 0", "1/3 1 -1/3 -2 <= 0"}, ""},
		{"1 -2 0 -2", []string{"1/2 -7/2 -2 4 <= 0", "1/2 -1 -1/2 1/2 <= 0", "1 0 0 0 <= 1"}, "1"},
	} {
		p := linear.Program{Goal: nums(t, c.goal), Rows: append(rows(t, c.rows...), rows(t, "-1 0 0 0 <= 0", "0 -1 0 0 <= 0", "0 0 -1 0 <= 0", "0 0 0 -1 <= 0")...)}
		a := solve(t, p)
		if c.value == "" && a.Outcome != api.Unending || c.value != "" && a.Value.Text() != c.value {
			t.Errorf("%s\nis %s", programText(p), answerText(a))
		}
	}
	r := rand.New(rand.NewSource(24))
	for range 400 { // many rows that end at one point
		n := 1 + r.Intn(7)
		list := someRows(r, n, 12+r.Intn(20))
		for i := range list {
			list[i].Most = exact.Q{}
		}
		solve(t, linear.Program{Goal: someNumbers(r, r.Intn(5), n), Rows: list})
	}
}

// TestP2_3Cubes has programs on which some ways of climbing visit all corners of a cube.
func TestP2_3Cubes(t *testing.T) {
	n := api.MaxUnknowns
	power := func(base int64, times int) exact.Q {
		x := exact.Int(1)
		for range times {
			x = x.Times(exact.Int(base))
		}
		return x
	}
	for _, low := range []int64{0, 1} {
		p := linear.Program{Goal: zeros(n)}
		for i := range n {
			p.Goal[i] = power(10, n-1-i)
			row := linear.Row{Coefs: zeros(n), Most: power(100, i).Plus(exact.Int(low))}
			for j := range i {
				row.Coefs[j] = exact.Int(2).Times(power(10, i-j))
			}
			row.Coefs[i] = exact.Int(1)
			floor := linear.Row{Coefs: zeros(n)}
			floor.Coefs[i] = exact.Int(-1)
			p.Rows = append(p.Rows, row, floor)
		}
		a := solve(t, p)
		if want := power(100, n-1).Plus(exact.Int(low)); a.Value.Cmp(want) != 0 {
			t.Errorf("a value of %s, not %s", a.Value.Text(), want.Text())
		}
	}
	third, _ := exact.Of(1, 3)
	p := linear.Program{Goal: zeros(n)}
	p.Goal[n-1] = exact.Int(1)
	for i := range n { // 1/3 of the unknown before <= unknown <= 1 less 1/3 of the unknown before
		high := linear.Row{Coefs: zeros(n), Most: exact.Int(1)}
		low := linear.Row{Coefs: zeros(n)}
		high.Coefs[i], low.Coefs[i] = exact.Int(1), exact.Int(-1)
		if i > 0 {
			high.Coefs[i-1], low.Coefs[i-1] = third, third
		}
		p.Rows = append(p.Rows, high, low)
	}
	if a := solve(t, p); a.Value.Cmp(exact.Int(1)) != 0 {
		t.Error("a value of", a.Value.Text())
	}
}

// TestP2_3Greatest solves programs of the greatest size.
func TestP2_3Greatest(t *testing.T) {
	r := rand.New(rand.NewSource(25))
	var seen [4]bool
	for range 8 {
		n, m := api.MaxUnknowns, api.MaxRows
		p := linear.Program{Goal: someNumbers(r, r.Intn(3), n), Rows: someRows(r, n, m-2*n)}
		if r.Intn(3) > 0 {
			p.Rows = append(p.Rows, box(n, -4, 5)...)
		} else {
			p.Rows = append(p.Rows, someRows(r, n, 2*n)...)
		}
		seen[solve(t, p).Outcome] = true
	}
	if !seen[api.Solved] || !seen[api.Empty] {
		t.Error("outcomes", seen)
	}
}

// TestP2_3LongNumbers solves a program whose numbers have hundreds of digits.
func TestP2_3LongNumbers(t *testing.T) {
	long := num(t, "123456789123456789123456789/1000000007")
	for range 4 {
		long = long.Times(long)
	}
	p := linear.Program{Goal: nums(t, "1 1"), Rows: corner(t)}
	short := solve(t, p)
	for i := range p.Rows { // the same rows and the same goal by another measure
		p.Rows[i].Most = p.Rows[i].Most.Times(long)
		for j := range p.Rows[i].Coefs {
			p.Rows[i].Coefs[j] = p.Rows[i].Coefs[j].Times(long)
		}
	}
	for j := range p.Goal {
		p.Goal[j] = p.Goal[j].Times(long)
	}
	if a := solve(t, p); a.Value.Cmp(short.Value.Times(long)) != 0 || text(a.Point) != text(short.Point) {
		t.Error("another value than the short program's")
	}
}

// TestR4Memory checks that no argument is changed, and that results are new.
func TestR4Memory(t *testing.T) {
	r := rand.New(rand.NewSource(26))
	for range 300 {
		n := 1 + r.Intn(4)
		p := linear.Program{Goal: someNumbers(r, 0, n), Rows: someRows(r, n, r.Intn(9))}
		before := programText(p)
		a := solve(t, p)
		was := answerText(a)
		linear.Range(p.Rows, p.Goal)
		linear.Needed(p.Rows, n)
		linear.Conflict(p.Rows, n)
		corners, _ := linear.Corners(p.Rows, n)
		linear.Proves(p, a)
		linear.Keeps(p.Rows, p.Goal)
		if programText(p) != before || answerText(a) != was {
			t.Fatalf("an argument was changed: %s", before)
		}
		for _, list := range append(corners, a.Point, a.Weights, a.Ray) {
			for i := range list {
				list[i] = exact.Int(77)
			}
		}
		if again := solve(t, p); programText(p) != before || answerText(again) != was {
			t.Fatalf("%s\nwas %s, is %s", before, was, answerText(again))
		}
	}
}
