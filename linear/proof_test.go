package linear_test

import (
	"math/rand"
	"slices"
	"testing"

	"voussoir/api"
	"voussoir/exact"
	"voussoir/linear"
)

// proves compares Proves with what P2.2 says.
func proves(t *testing.T, p linear.Program, a linear.Answer) bool {
	t.Helper()
	got, e := linear.Proves(p, a)
	if want := proved(p, a); e != api.OK || got != want {
		t.Fatalf("error %d, %v, not %v: %s\nof %s", e, got, want, answerText(a), programText(p))
	}
	return got
}

// claim is an answer in texts, and whether it is proved.
type claim struct {
	outcome                    api.Outcome
	value, point, weights, ray string
	proved                     bool
}

// check compares Proves with claims.
func check(t *testing.T, p linear.Program, claims []claim) {
	t.Helper()
	for _, c := range claims {
		a := linear.Answer{Outcome: c.outcome, Value: num(t, c.value), Point: nums(t, c.point), Weights: nums(t, c.weights), Ray: nums(t, c.ray)}
		if proves(t, p, a) != c.proved {
			t.Errorf("proved is not %v: %s", c.proved, answerText(a))
		}
	}
}

func TestP2_2Solved(t *testing.T) {
	check(t, linear.Program{Goal: nums(t, "1 1"), Rows: corner(t)}, []claim{
		{api.Solved, "14/5", "8/5 6/5", "2/5 1/5 0 0", "", true},
		{api.Solved, "3", "8/5 6/5", "2/5 1/5 0 0", "", false},
		{api.Solved, "2", "0 2", "2/5 1/5 0 0", "", false},       // another point
		{api.Solved, "14/5", "14/5 0", "2/5 1/5 0 0", "", false}, // a point that does not keep the second row
		{api.Solved, "4", "2 2", "1 0 0 1", "", false},           // the weights are good, the point is not
		{api.Solved, "2", "0 2", "1 0 0 1", "", false},           // the sum of the weights is above the value
		{api.Solved, "14/5", "8/5 6/5", "2/5 1/5 0 1/100", "", false},
		{api.Solved, "14/5", "8/5 6/5", "4 -1 0 6", "", false}, // a negative weight
		{api.Solved, "14/5", "8/5 6/5", "2/5 1/5 0", "", false},
		{api.Solved, "14/5", "8/5 6/5", "2/5 1/5 0 0 0", "", false},
		{api.Solved, "14/5", "8/5 6/5", "", "", false},
		{api.Solved, "14/5", "8/5", "2/5 1/5 0 0", "", false},
		{api.Solved, "14/5", "8/5 6/5 0", "2/5 1/5 0 0", "", false},
		{api.Solved, "14/5", "", "2/5 1/5 0 0", "", false},
		{api.Solved, "14/5", "8/5 6/5", "2/5 1/5 0 0", "0 0", false}, // a list that is not named
		{api.Solved, "14/5", "8/5 6/5", "2/5 1/5 0 0", "0", false},
		{api.Empty, "14/5", "8/5 6/5", "2/5 1/5 0 0", "", false},
		{api.Unending, "14/5", "8/5 6/5", "2/5 1/5 0 0", "", false},
		{0, "14/5", "8/5 6/5", "2/5 1/5 0 0", "", false},
		{4, "14/5", "8/5 6/5", "2/5 1/5 0 0", "", false},
		{255, "14/5", "8/5 6/5", "2/5 1/5 0 0", "", false},
		{0, "0", "", "", "", false},
	})
	check(t, linear.Program{Goal: nums(t, "2"), Rows: rows(t, "1 <= 3", "2 <= 6")}, []claim{ // other weights prove it as well
		{api.Solved, "6", "3", "2 0", "", true},
		{api.Solved, "6", "3", "0 1", "", true},
		{api.Solved, "6", "3", "1 1/2", "", true},
		{api.Solved, "6", "3", "-2 2", "", false},
	})
	check(t, linear.Program{}, []claim{
		{api.Solved, "0", "", "", "", true},
		{api.Solved, "1", "", "", "", false},
		{api.Solved, "0", "0", "", "", false},
		{api.Solved, "0", "", "0", "", false},
		{api.Empty, "0", "", "", "", false},
		{api.Unending, "0", "", "", "", false},
	})
}

func TestP2_2Empty(t *testing.T) {
	check(t, linear.Program{Goal: nums(t, "5"), Rows: rows(t, "1 <= 1", "-1 <= -2", "0 <= 0")}, []claim{
		{api.Empty, "0", "", "1 1 0", "", true},
		{api.Empty, "0", "", "7/3 7/3 5", "", true},
		{api.Empty, "0", "", "1 2 0", "", false},
		{api.Empty, "0", "", "0 0 0", "", false},
		{api.Empty, "0", "", "0 0 1", "", false},
		{api.Empty, "0", "", "-1 -1 0", "", false},
		{api.Empty, "0", "", "1 1 -1", "", false},
		{api.Empty, "0", "", "1 1", "", false},
		{api.Empty, "0", "", "1 1 0 0", "", false},
		{api.Empty, "-1", "", "1 1 0", "", false},
		{api.Empty, "0", "0", "1 1 0", "", false},
		{api.Empty, "0", "", "1 1 0", "0", false},
		{api.Solved, "0", "", "1 1 0", "", false},
		{api.Unending, "0", "", "1 1 0", "", false},
	})
	check(t, linear.Program{Goal: nums(t, "5"), Rows: rows(t, "1 <= 1", "-1 <= -1")}, []claim{
		{api.Empty, "0", "", "1 1", "", false}, // the sum is 0, which is not negative
		{api.Empty, "0", "", "1 1", "", false},
		{api.Solved, "5", "1", "5 0", "", true},
		{api.Solved, "5", "1", "6 1", "", true},
	})
	check(t, linear.Program{Rows: rows(t, "<= 1", "<= -1")}, []claim{
		{api.Empty, "0", "", "0 1", "", true},
		{api.Empty, "0", "", "1 1", "", false},
		{api.Empty, "0", "", "1 2", "", true},
		{api.Solved, "0", "", "0 0", "", false},
	})
}

func TestP2_2Unending(t *testing.T) {
	check(t, linear.Program{Goal: nums(t, "1 0"), Rows: rows(t, "-1 0 <= -2", "0 1 <= 5")}, []claim{
		{api.Unending, "0", "2 5", "", "1 0", true},
		{api.Unending, "0", "2 5", "", "1/9 -1", true},
		{api.Unending, "0", "2 5", "", "1 1", false},
		{api.Unending, "0", "2 5", "", "0 -1", false}, // the value does not grow
		{api.Unending, "0", "2 5", "", "-1 0", false},
		{api.Unending, "0", "2 5", "", "0 0", false},
		{api.Unending, "0", "1 5", "", "1 0", false}, // the point does not keep a row
		{api.Unending, "0", "2 6", "", "1 0", false},
		{api.Unending, "2", "2 5", "", "1 0", false},
		{api.Unending, "0", "2 5", "0 0", "1 0", false},
		{api.Unending, "0", "2 5", "", "1", false},
		{api.Unending, "0", "2 5", "", "1 0 0", false},
		{api.Unending, "0", "2", "", "1 0", false},
		{api.Unending, "0", "2 5 0", "", "1 0", false},
		{api.Unending, "0", "", "", "1 0", false},
		{api.Unending, "0", "2 5", "", "", false},
		{api.Solved, "0", "2 5", "", "1 0", false},
		{api.Empty, "0", "2 5", "", "1 0", false},
	})
	check(t, linear.Program{Goal: nums(t, "1")}, []claim{
		{api.Unending, "0", "0", "", "1", true},
		{api.Unending, "0", "-7", "", "1/2", true},
		{api.Unending, "0", "0", "", "-1", false},
		{api.Solved, "0", "0", "", "", false},
	})
}

func TestP2_4WrongPrograms(t *testing.T) {
	for _, n := range []int{0, 1, 2, api.MaxUnknowns} {
		for i, list := range wrong(t, n) {
			p := linear.Program{Goal: zeros(n), Rows: list}
			a := linear.Answer{Outcome: api.Solved, Point: zeros(n), Weights: zeros(len(list))}
			if ok, e := linear.Proves(p, a); ok || e != api.ErrArg {
				t.Errorf("%d unknowns, wrong rows %d: %v, error %d", n, i, ok, e)
			}
		}
	}
	a := linear.Answer{Outcome: api.Solved, Point: zeros(21)}
	if ok, e := linear.Proves(linear.Program{Goal: zeros(21)}, a); ok || e != api.ErrArg {
		t.Errorf("21 unknowns: %v, error %d", ok, e)
	}
}

// spoil changes one thing in an answer.
func spoil(r *rand.Rand, a linear.Answer) linear.Answer {
	lists := []*[]exact.Q{&a.Point, &a.Weights, &a.Ray}
	for _, l := range lists {
		*l = slices.Clone(*l)
	}
	l := lists[r.Intn(3)]
	switch r.Intn(6) {
	case 0:
		a.Outcome = api.Outcome(r.Intn(5))
	case 1:
		a.Value = a.Value.Plus(someNumber(r, 4))
	case 2:
		*l = append(*l, someNumber(r, 4))
	case 3:
		if len(*l) > 0 {
			*l = (*l)[:len(*l)-1]
		}
	case 4:
		*l = nil
	case 5:
		if len(*l) > 0 {
			(*l)[r.Intn(len(*l))] = someNumber(r, r.Intn(3))
		}
	}
	return a
}

func TestP2_4SpoiltAnswers(t *testing.T) {
	r := rand.New(rand.NewSource(28))
	yes, no := 0, 0
	for range 2500 {
		n := r.Intn(4)
		p := linear.Program{Goal: someNumbers(r, 4, n), Rows: someRows(r, n, r.Intn(6))}
		a := solve(t, p)
		if !proves(t, p, a) {
			t.Fatal("Solve's own answer is not proved")
		}
		for range 6 {
			if proves(t, p, spoil(r, a)) {
				yes++
			} else {
				no++
			}
		}
	}
	if yes < 500 || no < 500 {
		t.Error("too few of one kind:", yes, no)
	}
}

// TestP2_9NoOther checks that no made-up answer with another outcome or value is proved.
func TestP2_9NoOther(t *testing.T) {
	r := rand.New(rand.NewSource(29))
	small := func(n int) []exact.Q { return someNumbers(r, 4, n) }
	found := 0
	for range 4000 {
		n, m := r.Intn(3), r.Intn(4)
		p := linear.Program{Goal: small(n), Rows: someRows(r, n, m)}
		a := solve(t, p)
		for range 8 {
			b := linear.Answer{Outcome: api.Outcome(1 + r.Intn(3))}
			switch b.Outcome {
			case api.Solved:
				b.Point, b.Weights = small(n), small(m)
				for j := range n {
					b.Value = b.Value.Plus(p.Goal[j].Times(b.Point[j]))
				}
			case api.Empty:
				b.Weights = small(m)
			case api.Unending:
				b.Point, b.Ray = small(n), small(n)
			}
			if !proves(t, p, b) {
				continue
			}
			found++
			if a.Outcome != b.Outcome || a.Value.Cmp(b.Value) != 0 {
				t.Fatalf("%s\n%s\n%s", programText(p), answerText(a), answerText(b))
			}
		}
	}
	if found < 100 {
		t.Error("too few made-up answers are proved:", found)
	}
}

// TestP2_9Points checks what a proved answer says about points.
func TestP2_9Points(t *testing.T) {
	r := rand.New(rand.NewSource(30))
	for range 2000 {
		n := 1 + r.Intn(3)
		p := linear.Program{Goal: someNumbers(r, 0, n), Rows: someRows(r, n, r.Intn(7))}
		a := solve(t, p)
		for range 10 {
			point := someNumbers(r, r.Intn(5), n)
			if !keepsRows(p.Rows, point) {
				continue
			}
			if a.Outcome == api.Empty || a.Outcome == api.Solved && dot(p.Goal, point).Cmp(rat(a.Value)) > 0 {
				t.Fatalf("%s\n%s\nbut %s keeps all rows", programText(p), answerText(a), text(point))
			}
		}
		if a.Outcome != api.Unending {
			continue
		}
		most := num(t, "1000000000000000000000") // a greater value is asked for by one more row
		row := linear.Row{Most: most.Neg()}
		for _, c := range p.Goal {
			row.Coefs = append(row.Coefs, c.Neg())
		}
		if !possible(t, append(slices.Clone(p.Rows), row), n) {
			t.Fatalf("%s\n%s\nbut not %s", programText(p), answerText(a), most.Text())
		}
	}
}
