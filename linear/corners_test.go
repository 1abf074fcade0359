package linear_test

import (
	"math/big"
	"math/rand"
	"slices"
	"strings"
	"testing"

	"voussoir/api"
	"voussoir/exact"
	"voussoir/linear"
)

// cornersText returns corners as one text.
func cornersText(list [][]exact.Q) string {
	var texts []string
	for _, x := range list {
		texts = append(texts, text(x))
	}
	return strings.Join(texts, "; ")
}

func TestP2_8Corners(t *testing.T) {
	for _, c := range []struct {
		rows  []string
		count int
		want  string
	}{
		{[]string{"1 2 <= 4", "3 1 <= 6", "-1 0 <= 0", "0 -1 <= 0"}, 4, "0 0; 0 2; 8/5 6/5; 2 0"},
		{[]string{"0 -1 <= 0", "-1 0 <= 0", "3 1 <= 6", "1 2 <= 4"}, 4, "0 0; 0 2; 8/5 6/5; 2 0"},
		{[]string{"1 0 <= 1", "-1 0 <= 1", "0 1 <= 1", "0 -1 <= 1"}, 4, "-1 -1; -1 1; 1 -1; 1 1"},
		{[]string{"1 0 <= 1", "-1 0 <= 1", "0 1 <= 1", "0 -1 <= 1", "1 1 <= 2", "1 0 <= 1"}, 4, "-1 -1; -1 1; 1 -1; 1 1"},
		{[]string{"-1 0 <= 0", "0 -1 <= 0"}, 1, "0 0"},
		{[]string{"-1 0 <= 0", "0 -1 <= 0", "-1 -1 <= -1"}, 2, "0 1; 1 0"},
		{[]string{"1 0 <= 1", "-1 0 <= 1"}, 0, ""},
		{[]string{"1 1 <= 1", "-1 -1 <= -1"}, 0, ""},
		{[]string{"1 1 <= 1"}, 0, ""},
		{[]string{"1 0 <= 3", "-1 0 <= -3", "0 1 <= -5", "0 -1 <= 5"}, 1, "3 -5"},
		{[]string{"1 1 <= 1", "-1 -1 <= -1", "-1 0 <= 0", "0 -1 <= 0"}, 2, "0 1; 1 0"},
		{[]string{"1 <= 1/2", "-1 <= 1/3"}, 2, "-1/3; 1/2"},
		{[]string{"-1 <= 10", "-1 <= 9", "1 <= 10"}, 2, "-9; 10"},
		{[]string{"1 <= 2", "-1 <= -2"}, 1, "2"},
		{[]string{"0 <= 2", "0 <= 0"}, 0, ""},
		{[]string{"1 1 1 <= 1", "-1 0 0 <= 0", "0 -1 0 <= 0", "0 0 -1 <= 0"}, 4, "0 0 0; 0 0 1; 0 1 0; 1 0 0"},
		{[]string{"1 0 1 <= 1", "-1 0 1 <= 1", "0 1 1 <= 1", "0 -1 1 <= 1", "0 0 -1 <= 0"}, 5, "-1 -1 0; -1 1 0; 0 0 1; 1 -1 0; 1 1 0"},
	} {
		list := rows(t, c.rows...)
		got, e := linear.Corners(list, len(list[0].Coefs))
		if e != api.OK || len(got) != c.count || cornersText(got) != c.want {
			t.Errorf("%q: %s, error %d", c.rows, cornersText(got), e)
		}
	}
}

// TestP2_8NoUnknowns has programs whose only point is the empty list.
func TestP2_8NoUnknowns(t *testing.T) {
	for _, list := range [][]linear.Row{nil, rows(t, "<= 0"), rows(t, "<= 1", "<= 2")} {
		if got, e := linear.Corners(list, 0); e != api.OK || len(got) != 1 || len(got[0]) != 0 {
			t.Errorf("%s: %v, error %d", rowsText(list), got, e)
		}
	}
	if got, e := linear.Corners(rows(t, "<= 1", "<= -2"), 0); e != api.ErrEmpty || len(got) != 0 {
		t.Errorf("%v, error %d", got, e)
	}
}

// TestP2_8NoRows has programs that every point keeps: none of them is a corner.
func TestP2_8NoRows(t *testing.T) {
	for n := 1; n <= api.MaxSpread; n++ {
		if got, e := linear.Corners(nil, n); e != api.OK || len(got) != 0 {
			t.Errorf("%d unknowns: %v, error %d", n, got, e)
		}
	}
}

func TestP2_8Errors(t *testing.T) {
	refuses(t, func(list []linear.Row, n int) (int, api.Errno) {
		got, e := linear.Corners(list, n)
		return len(got), e
	})
	for _, c := range []struct{ unknowns, rows int }{{5, 0}, {5, 3}, {20, 70}, {4, 13}, {0, 13}, {1, 70}} {
		list := make([]linear.Row, c.rows)
		for i := range list { // no point keeps them, but that is found out last
			list[i] = linear.Row{Coefs: zeros(c.unknowns), Most: exact.Int(-1)}
		}
		if got, e := linear.Corners(list, c.unknowns); len(got) != 0 || e != api.ErrLong {
			t.Errorf("%d unknowns, %d rows: %v, error %d", c.unknowns, c.rows, got, e)
		}
	}
	many := make([]linear.Row, 13)
	if got, e := linear.Corners(append(many, linear.Row{Coefs: zeros(1)}), 0); len(got) != 0 || e != api.ErrArg {
		t.Errorf("too many rows, the last of them wrong: %v, error %d", got, e)
	}
	if got, e := linear.Corners(rows(t, "1 0 <= 1", "-1 0 <= -2", "0 1 <= 3", "0 -1 <= 3"), 2); len(got) != 0 || e != api.ErrEmpty {
		t.Errorf("rows that no point keeps: %v, error %d", got, e)
	}
}

// meet returns the point at which rows are equal to their Most, if it is the
// only one, as math/big finds it.
func meet(list []linear.Row, unknowns int) ([]*big.Rat, bool) {
	var lines [][]*big.Rat
	for _, r := range list {
		var line []*big.Rat
		for _, c := range append(slices.Clone(r.Coefs), r.Most) {
			line = append(line, rat(c))
		}
		lines = append(lines, line)
	}
	for j := range unknowns {
		i := j
		for i < len(lines) && lines[i][j].Sign() == 0 {
			i++
		}
		if i >= len(lines) {
			return nil, false
		}
		lines[i], lines[j] = lines[j], lines[i]
		for k := range lines {
			if k == j {
				continue
			}
			times := new(big.Rat).Quo(lines[k][j], lines[j][j])
			for c := range lines[k] {
				lines[k][c].Sub(lines[k][c], new(big.Rat).Mul(times, lines[j][c]))
			}
		}
	}
	var point []*big.Rat
	for j := range unknowns {
		point = append(point, new(big.Rat).Quo(lines[j][unknowns], lines[j][j]))
	}
	return point, true
}

// allCorners is what P2.8 says: the points that keep all rows, and are the only
// ones at which some of the rows are equal to their Most.
func allCorners(t *testing.T, list []linear.Row, unknowns int) [][]exact.Q {
	t.Helper()
	var found [][]exact.Q
	for choice := range 1 << len(list) {
		var some []linear.Row
		for i := range list {
			if choice>>i&1 == 1 {
				some = append(some, list[i])
			}
		}
		if len(some) != unknowns {
			continue
		}
		point, ok := meet(some, unknowns)
		if !ok {
			continue
		}
		var numbers []exact.Q
		for _, x := range point {
			numbers = append(numbers, num(t, x.RatString()))
		}
		there := slices.ContainsFunc(found, func(other []exact.Q) bool { return text(other) == text(numbers) })
		if keepsRows(list, numbers) && !there {
			found = append(found, numbers)
		}
	}
	slices.SortFunc(found, func(x, y []exact.Q) int {
		for j := range x {
			if order := rat(x[j]).Cmp(rat(y[j])); order != 0 {
				return order
			}
		}
		return 0
	})
	return found
}

func TestP2_8CornersRandom(t *testing.T) {
	r := rand.New(rand.NewSource(37))
	most := 0
	for range 700 {
		n := r.Intn(api.MaxSpread + 1)
		list := someRows(r, n, r.Intn(8))
		if r.Intn(2) == 0 && n > 0 {
			list = append(box(n, -1, 1)[:min(2*n, api.MaxCorners-len(list))], list...)
		}
		got, e := linear.Corners(list, n)
		if !possible(t, list, n) {
			if e != api.ErrEmpty || len(got) != 0 {
				t.Fatalf("%s, error %d:\n%s", cornersText(got), e, rowsText(list))
			}
			continue
		}
		want := allCorners(t, list, n)
		if e != api.OK || len(got) != len(want) || cornersText(got) != cornersText(want) {
			t.Fatalf("%s, not %s, error %d:\n%s", cornersText(got), cornersText(want), e, rowsText(list))
		}
		most = max(most, len(got))
	}
	if most < 12 {
		t.Error("no program with many corners:", most)
	}
}

func TestP2_11GreatestAtACorner(t *testing.T) {
	r := rand.New(rand.NewSource(38))
	seen := 0
	for range 600 {
		n := 1 + r.Intn(api.MaxSpread)
		list := someRows(r, n, n+r.Intn(6))
		corners, e := linear.Corners(list, n)
		if e != api.OK || len(corners) == 0 {
			continue
		}
		p := linear.Program{Goal: someNumbers(r, 0, n), Rows: list}
		a := solve(t, p)
		if a.Outcome != api.Solved {
			continue
		}
		if !slices.ContainsFunc(corners, func(x []exact.Q) bool { return dot(p.Goal, x).Cmp(rat(a.Value)) == 0 }) {
			t.Fatalf("no corner of %s has the value %s of %s", cornersText(corners), a.Value.Text(), text(p.Goal))
		}
		seen++
	}
	if seen < 50 {
		t.Error("too few programs:", seen)
	}
}

// TestP2_11Between finds the weights with which a point lies between corners.
func TestP2_11Between(t *testing.T) {
	r := rand.New(rand.NewSource(39))
	seen := 0
	for range 300 {
		n := 1 + r.Intn(3)
		list := append(box(n, -2, 2), someRows(r, n, r.Intn(5))...)
		corners, e := linear.Corners(list, n)
		if e != api.OK || len(corners) > api.MaxUnknowns {
			continue
		}
		point := solve(t, linear.Program{Goal: someNumbers(r, 4, n), Rows: list}).Point
		for range 3 {
			other := solve(t, linear.Program{Goal: someNumbers(r, 0, n), Rows: list}).Point
			half, _ := exact.Of(int64(r.Intn(8)), 7)
			for j := range point {
				point[j] = point[j].Plus(other[j].Minus(point[j]).Times(half))
			}
		}
		if !possible(t, betweenRows(corners, point), len(corners)) {
			t.Fatalf("%s is not between %s", text(point), cornersText(corners))
		}
		seen++
	}
	if seen < 100 {
		t.Error("too few programs:", seen)
	}
}

// betweenRows returns rows that weights of the corners keep just if the
// weighted sum of the corners is the point.
func betweenRows(corners [][]exact.Q, point []exact.Q) []linear.Row {
	list := box(len(corners), 0, 1)
	all := linear.Row{Most: exact.Int(1)}
	for range corners {
		all.Coefs = append(all.Coefs, exact.Int(1))
	}
	list = append(list, all, turned(all))
	for j := range point {
		row := linear.Row{Most: point[j]}
		for _, x := range corners {
			row.Coefs = append(row.Coefs, x[j])
		}
		list = append(list, row, turned(row))
	}
	return list
}
