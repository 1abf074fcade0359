package linear_test

import (
	"math/big"
	"math/rand"
	"slices"
	"strings"
	"testing"

	"voussoir/api"
	"voussoir/exact"
	"voussoir/linear"
)

// num returns the number of a text.
func num(t *testing.T, s string) exact.Q {
	t.Helper()
	x, e := exact.Read(s)
	if e != api.OK {
		t.Fatalf("Read(%q): error %d", s, e)
	}
	return x
}

// nums returns the numbers of a text, with blanks between them.
func nums(t *testing.T, s string) []exact.Q {
	t.Helper()
	var list []exact.Q
	for _, word := range strings.Fields(s) {
		list = append(list, num(t, word))
	}
	return list
}

// rows returns the rows of texts like "1 2 <= 4".
func rows(t *testing.T, texts ...string) []linear.Row {
	t.Helper()
	var list []linear.Row
	for _, s := range texts {
		coefs, most, ok := strings.Cut(s, "<=")
		if !ok {
			t.Fatalf("not a row: %q", s)
		}
		list = append(list, linear.Row{Coefs: nums(t, coefs), Most: num(t, strings.TrimSpace(most))})
	}
	return list
}

// corner returns the rows of the document's first example.
func corner(t *testing.T) []linear.Row {
	t.Helper()
	return rows(t, "1 2 <= 4", "3 1 <= 6", "-1 0 <= 0", "0 -1 <= 0")
}

// text returns numbers as one text, as nums reads it.
func text(list []exact.Q) string {
	var words []string
	for _, x := range list {
		words = append(words, x.Text())
	}
	return strings.Join(words, " ")
}

// rowsText returns rows as one text.
func rowsText(list []linear.Row) string {
	var lines []string
	for _, r := range list {
		lines = append(lines, text(r.Coefs)+" <= "+r.Most.Text())
	}
	return strings.Join(lines, "\n")
}

// programText returns a program as one text.
func programText(p linear.Program) string { return "goal " + text(p.Goal) + "\n" + rowsText(p.Rows) }

// answerText returns an answer as one text.
func answerText(a linear.Answer) string {
	return string(rune('0'+a.Outcome)) + " value " + a.Value.Text() + " point " + text(a.Point) + " weights " + text(a.Weights) + " ray " + text(a.Ray)
}

// zeros returns so many zeros.
func zeros(n int) []exact.Q { return make([]exact.Q, n) }

// rat returns a number as one of math/big.
func rat(x exact.Q) *big.Rat {
	r, ok := new(big.Rat).SetString(x.Text())
	if !ok {
		panic("not a number: " + x.Text())
	}
	return r
}

// dot returns the sum of products, as math/big computes it.
func dot(x, y []exact.Q) *big.Rat {
	sum := new(big.Rat)
	for i := range x {
		sum.Add(sum, new(big.Rat).Mul(rat(x[i]), rat(y[i])))
	}
	return sum
}

// keepsRows is what P2.5 says of Keeps, as math/big computes it.
func keepsRows(list []linear.Row, point []exact.Q) bool {
	for _, r := range list {
		if dot(r.Coefs, point).Cmp(rat(r.Most)) > 0 {
			return false
		}
	}
	return true
}

// column returns the coefficients of an unknown.
func column(list []linear.Row, unknown int) []exact.Q {
	var c []exact.Q
	for _, r := range list {
		c = append(c, r.Coefs[unknown])
	}
	return c
}

// mosts returns the Most of each row.
func mosts(list []linear.Row) []exact.Q {
	var m []exact.Q
	for _, r := range list {
		m = append(m, r.Most)
	}
	return m
}

// proved is what P2.2 says, as math/big computes it.
func proved(p linear.Program, a linear.Answer) bool {
	n, m := len(p.Goal), len(p.Rows)
	weighs := func(want []exact.Q) bool {
		if len(a.Weights) != m || slices.ContainsFunc(a.Weights, func(w exact.Q) bool { return rat(w).Sign() < 0 }) {
			return false
		}
		for j := range n {
			if dot(a.Weights, column(p.Rows, j)).Cmp(rat(want[j])) != 0 {
				return false
			}
		}
		return true
	}
	stands := func() bool { return len(a.Point) == n && keepsRows(p.Rows, a.Point) }
	value := rat(a.Value)
	switch a.Outcome {
	case api.Solved:
		return len(a.Ray) == 0 && stands() && weighs(p.Goal) && dot(p.Goal, a.Point).Cmp(value) == 0 && dot(a.Weights, mosts(p.Rows)).Cmp(value) == 0
	case api.Empty:
		return len(a.Point) == 0 && len(a.Ray) == 0 && value.Sign() == 0 && weighs(zeros(n)) && dot(a.Weights, mosts(p.Rows)).Sign() < 0
	case api.Unending:
		if len(a.Weights) != 0 || value.Sign() != 0 || !stands() || len(a.Ray) != n {
			return false
		}
		for _, r := range p.Rows {
			if dot(r.Coefs, a.Ray).Sign() > 0 {
				return false
			}
		}
		return dot(p.Goal, a.Ray).Sign() > 0
	}
	return false
}

// solve solves a program, and checks that the answer is proved.
func solve(t *testing.T, p linear.Program) linear.Answer {
	t.Helper()
	a, e := linear.Solve(p)
	if e != api.OK || !proved(p, a) {
		t.Fatalf("error %d, not proved: %s\nof %s", e, answerText(a), programText(p))
	}
	return a
}

// possible reports whether some point keeps rows; the answer is proved.
func possible(t *testing.T, list []linear.Row, unknowns int) bool {
	t.Helper()
	return solve(t, linear.Program{Goal: zeros(unknowns), Rows: list}).Outcome != api.Empty
}

// someNumber returns a number of a kind: 0 a small integer, 1 mostly zero, 2 a fraction, 3 a long integer, 4 -1, 0 or 1.
func someNumber(r *rand.Rand, kind int) exact.Q {
	n := int64(r.Intn(19) - 9)
	switch kind {
	case 1:
		if r.Intn(3) > 0 {
			return exact.Q{}
		}
	case 2:
		x, _ := exact.Of(n, int64(1+r.Intn(12)))
		return x
	case 3:
		return exact.Int(r.Int63() - 1<<62).Times(exact.Int(r.Int63()))
	case 4:
		return exact.Int(int64(r.Intn(3) - 1))
	}
	return exact.Int(n)
}

// someNumbers returns so many of them.
func someNumbers(r *rand.Rand, kind, n int) []exact.Q {
	list := make([]exact.Q, n)
	for i := range list {
		list[i] = someNumber(r, kind)
	}
	return list
}

// someRows returns rows at random. Most of them are near a point, so that it
// keeps many of them, and is just at the end of some.
func someRows(r *rand.Rand, unknowns, count int) []linear.Row {
	kind, near := r.Intn(5), r.Intn(4)
	point := someNumbers(r, 4, unknowns)
	var list []linear.Row
	for range count {
		row := linear.Row{Coefs: someNumbers(r, kind, unknowns), Most: someNumber(r, kind)}
		if near > 0 {
			row.Most = exact.Int(int64(r.Intn(3 * near))).Minus(exact.Int(int64(r.Intn(near))))
			for j, c := range row.Coefs {
				row.Most = row.Most.Plus(c.Times(point[j]))
			}
		}
		list = append(list, row)
		if r.Intn(8) == 0 && len(list) < count { // an equation, or a row twice
			other := list[r.Intn(len(list))]
			if r.Intn(2) == 0 {
				other = turned(other)
			}
			list = append(list, other)
		}
	}
	return list[:count]
}

// turned returns the row that says that a sum is at least its Most.
func turned(row linear.Row) linear.Row {
	other := linear.Row{Most: row.Most.Neg()}
	for _, c := range row.Coefs {
		other.Coefs = append(other.Coefs, c.Neg())
	}
	return other
}

// without returns rows with one of them left out.
func without(list []linear.Row, i int) []linear.Row {
	return slices.Delete(slices.Clone(list), i, i+1)
}

// box returns the rows that hold each unknown from low to high.
func box(unknowns int, low, high int64) []linear.Row {
	var list []linear.Row
	for j := range unknowns {
		row := linear.Row{Coefs: zeros(unknowns), Most: exact.Int(high)}
		row.Coefs[j] = exact.Int(1)
		least := turned(row)
		least.Most = exact.Int(-low)
		list = append(list, row, least)
	}
	return list
}

// wrong returns rows that make a program with so many unknowns, from 0 to 20, not valid.
func wrong(t *testing.T, unknowns int) [][]linear.Row {
	t.Helper()
	good := linear.Row{Coefs: zeros(unknowns)}
	long := linear.Row{Coefs: zeros(unknowns + 1)}
	many := make([]linear.Row, api.MaxRows+1)
	for i := range many {
		many[i] = good
	}
	list := [][]linear.Row{{long}, {good, long}, {long, good}, {good, good, long, good}, many}
	if unknowns > 0 {
		short := linear.Row{Coefs: zeros(unknowns - 1)}
		list = append(list, []linear.Row{short}, []linear.Row{good, {}}, []linear.Row{short, long})
	}
	return list
}

// edges returns numbers of unknowns that are possible, and some that are not.
func edges() (good, bad []int) {
	return []int{0, 1, 2, api.MaxUnknowns - 1, api.MaxUnknowns}, []int{-1, -2, -1 << 31, -1 << 63, api.MaxUnknowns + 1, 1 << 20, 1<<63 - 1}
}

// refuses checks that a function about rows and a number of unknowns returns
// ErrArg, and an empty list, if they do not make a program that is valid.
func refuses(t *testing.T, call func(list []linear.Row, unknowns int) (length int, e api.Errno)) {
	t.Helper()
	good, bad := edges()
	for _, n := range bad {
		for _, list := range [][]linear.Row{nil, rows(t, "1 <= 1"), rows(t, "<= -1")} {
			if length, e := call(list, n); length != 0 || e != api.ErrArg {
				t.Errorf("%d unknowns: %d elements, error %d", n, length, e)
			}
		}
	}
	for _, n := range good {
		for i, list := range wrong(t, n) {
			if length, e := call(list, n); length != 0 || e != api.ErrArg {
				t.Errorf("%d unknowns, wrong rows %d: %d elements, error %d", n, i, length, e)
			}
		}
	}
}
