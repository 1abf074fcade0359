package linear_test

import (
	"math/rand"
	"slices"
	"testing"

	"voussoir/api"
	"voussoir/exact"
	"voussoir/linear"
)

func TestP2_5Range(t *testing.T) {
	for _, c := range []struct {
		form, low, high string
		rows            []string
	}{
		{"1 -1", "-2", "2", []string{"1 2 <= 4", "3 1 <= 6", "-1 0 <= 0", "0 -1 <= 0"}},
		{"1 1", "0", "14/5", []string{"1 2 <= 4", "3 1 <= 6", "-1 0 <= 0", "0 -1 <= 0"}},
		{"0 0", "0", "0", []string{"1 2 <= 4"}},
		{"1", "", "3", []string{"1 <= 3"}},
		{"-1", "-3", "", []string{"1 <= 3"}},
		{"1", "", "", nil},
		{"0", "0", "0", nil},
		{"", "0", "0", nil},
		{"", "0", "0", []string{"<= 3"}},
		{"2", "-6", "-6", []string{"1 <= -3", "-1 <= 3"}},
		{"1 0", "", "", []string{"0 1 <= 3", "0 -1 <= 3"}},
		{"0 1/3", "-1", "1", []string{"0 1 <= 3", "0 -1 <= 3"}},
		{"1 1", "4", "", []string{"-1 0 <= -1", "0 -1 <= -3"}},
		{"1 1", "", "-4", []string{"1 0 <= -1", "0 1 <= -3"}},
		{"1 0", "3/7", "5", []string{"7 0 <= 35", "-7 0 <= -3"}},
	} {
		got, e := linear.Range(rows(t, c.rows...), nums(t, c.form))
		want := linear.Ends{Bounded: [2]bool{c.low != "", c.high != ""}}
		if c.low != "" {
			want.Low = num(t, c.low)
		}
		if c.high != "" {
			want.High = num(t, c.high)
		}
		if e != api.OK || got.Low.Cmp(want.Low) != 0 || got.High.Cmp(want.High) != 0 || got.Bounded != want.Bounded {
			t.Errorf("%s of %v: error %d, %s to %s %v", c.form, c.rows, e, got.Low.Text(), got.High.Text(), got.Bounded)
		}
	}
}

// noEnds checks that ends are the zero value.
func noEnds(t *testing.T, what string, x linear.Ends) {
	t.Helper()
	if x.Low.Sign() != 0 || x.High.Sign() != 0 || x.Bounded != [2]bool{} {
		t.Errorf("%s: %s to %s %v", what, x.Low.Text(), x.High.Text(), x.Bounded)
	}
}

func TestP2_5RangeErrors(t *testing.T) {
	for _, n := range []int{0, 1, 2, api.MaxUnknowns} {
		for i, list := range wrong(t, n) {
			x, e := linear.Range(list, zeros(n))
			if e != api.ErrArg {
				t.Errorf("%d unknowns, wrong rows %d: error %d", n, i, e)
			}
			noEnds(t, "ErrArg", x)
		}
	}
	if _, e := linear.Range(nil, zeros(api.MaxUnknowns+1)); e != api.ErrArg {
		t.Error("21 unknowns", e)
	}
	for _, form := range []string{"0", "1"} {
		x, e := linear.Range(rows(t, "1 <= 1", "-1 <= -2"), nums(t, form))
		if e != api.ErrEmpty {
			t.Error("rows that no point keeps", e)
		}
		noEnds(t, "ErrEmpty", x)
	}
	if _, e := linear.Range(rows(t, "<= -1"), nil); e != api.ErrEmpty {
		t.Error("no unknowns", e)
	}
	if _, e := linear.Range(rows(t, "<= -1", "1 <= 1"), nil); e != api.ErrArg {
		t.Error("ErrArg comes first", e)
	}
}

func TestP2_5RangeRandom(t *testing.T) {
	r := rand.New(rand.NewSource(31))
	for range 1500 {
		n := r.Intn(5)
		list, form := someRows(r, n, r.Intn(9)), someNumbers(r, r.Intn(5), n)
		var opposite []exact.Q
		for _, c := range form {
			opposite = append(opposite, c.Neg())
		}
		high := solve(t, linear.Program{Goal: form, Rows: list})
		low := solve(t, linear.Program{Goal: opposite, Rows: list})
		got, e := linear.Range(list, form)
		if high.Outcome == api.Empty {
			if e != api.ErrEmpty {
				t.Fatalf("error %d: %s", e, rowsText(list))
			}
			noEnds(t, "ErrEmpty", got)
			continue
		}
		bounded := [2]bool{low.Outcome == api.Solved, high.Outcome == api.Solved}
		if e != api.OK || got.Bounded != bounded || got.Low.Neg().Cmp(low.Value) != 0 || got.High.Cmp(high.Value) != 0 {
			t.Fatalf("error %d, %s to %s %v: %s of\n%s", e, got.Low.Text(), got.High.Text(), got.Bounded, text(form), rowsText(list))
		}
	}
}

func TestP2_5Keeps(t *testing.T) {
	for _, c := range []struct {
		point string
		keeps bool
	}{{"0 0", true}, {"8/5 6/5", true}, {"2 0", true}, {"0 2", true}, {"8/5 1201/1000", false}, {"1601/1000 6/5", false}, {"-1/1000000 1", false}, {"1 -1/1000000", false}} {
		if got, e := linear.Keeps(corner(t), nums(t, c.point)); e != api.OK || got != c.keeps {
			t.Errorf("%s: %v, error %d", c.point, got, e)
		}
	}
	for n := range api.MaxUnknowns + 1 {
		if got, e := linear.Keeps(nil, zeros(n)); e != api.OK || !got {
			t.Errorf("no rows, %d unknowns: %v, error %d", n, got, e)
		}
		for i, list := range wrong(t, n) {
			if got, e := linear.Keeps(list, zeros(n)); e != api.ErrArg || got {
				t.Errorf("%d unknowns, wrong rows %d: %v, error %d", n, i, got, e)
			}
		}
	}
	if got, e := linear.Keeps(nil, zeros(21)); e != api.ErrArg || got {
		t.Error("21 unknowns", got, e)
	}
	if got, e := linear.Keeps(rows(t, "<= 0"), nil); e != api.OK || !got {
		t.Error("0 <= 0", got, e)
	}
	if got, e := linear.Keeps(rows(t, "<= 0", "<= -1/3"), nil); e != api.OK || got {
		t.Error("0 <= -1/3", got, e)
	}
	r := rand.New(rand.NewSource(32))
	for range 2000 {
		n := r.Intn(4)
		list, point := someRows(r, n, r.Intn(4)), someNumbers(r, r.Intn(5), n)
		if got, e := linear.Keeps(list, point); e != api.OK || got != keepsRows(list, point) {
			t.Fatalf("%s: %v, error %d of\n%s", text(point), got, e, rowsText(list))
		}
	}
}

func TestP2_6Needed(t *testing.T) {
	for _, c := range []struct {
		rows   []string
		needed []bool
	}{
		{[]string{"1 2 <= 4", "3 1 <= 6", "-1 0 <= 0", "0 -1 <= 0"}, []bool{true, true, true, true}},
		{[]string{"1 2 <= 4", "3 1 <= 6", "-1 0 <= 0", "0 -1 <= 0", "1 1 <= 14/5", "1 1 <= 3"}, []bool{true, true, true, true, false, false}},
		{[]string{"1 2 <= 4", "3 1 <= 6", "-1 0 <= 0", "0 -1 <= 0", "1 1 <= 2799/1000"}, []bool{true, true, true, true, true}},
		{[]string{"1 <= 3", "1 <= 3"}, []bool{false, false}},
		{[]string{"1 <= 3", "2 <= 6", "1 <= 4"}, []bool{false, false, false}},
		{[]string{"1 <= 3", "1 <= 4"}, []bool{true, false}},
		{[]string{"1 <= 3", "-1 <= -3"}, []bool{true, true}},
		{[]string{"1 0 <= 3", "-1 0 <= -3", "0 1 <= 1"}, []bool{true, true, true}},
		{[]string{"1 <= 3", "-1 <= -3", "1 <= 3"}, []bool{false, true, false}},
		{[]string{"0 <= 0", "0 <= 4"}, []bool{false, false}},
		{[]string{"1 0 <= 0", "0 1 <= 0", "1 1 <= 0"}, []bool{true, true, false}},
		{[]string{"1 0 <= 0", "-1 0 <= 0", "0 1 <= 0", "0 -1 <= 0", "1 1 <= 0", "-1 -1 <= 0"}, []bool{false, false, false, false, false, false}},
		{[]string{"1 0 <= 0", "-1 0 <= 0", "0 1 <= 0", "0 -1 <= 0"}, []bool{true, true, true, true}},
		{[]string{"1 1 <= 1"}, []bool{true}},
		{nil, nil},
	} {
		n := 2
		if len(c.rows) > 0 {
			n = len(rows(t, c.rows[0])[0].Coefs)
		}
		if got, e := linear.Needed(rows(t, c.rows...), n); e != api.OK || !slices.Equal(got, c.needed) {
			t.Errorf("%q: %v, error %d", c.rows, got, e)
		}
	}
	if got, e := linear.Needed(rows(t, "<= 0", "<= 4"), 0); e != api.OK || !slices.Equal(got, []bool{false, false}) {
		t.Error("no unknowns", got, e)
	}
}

func TestP2_6NeededErrors(t *testing.T) {
	refuses(t, func(list []linear.Row, n int) (int, api.Errno) {
		got, e := linear.Needed(list, n)
		return len(got), e
	})
	if got, e := linear.Needed(rows(t, "1 <= 1", "-1 <= -2"), 1); len(got) != 0 || e != api.ErrEmpty {
		t.Errorf("rows that no point keeps: %v, error %d", got, e)
	}
	if got, e := linear.Needed(rows(t, "<= 1", "<= -1"), 0); len(got) != 0 || e != api.ErrEmpty {
		t.Errorf("no unknowns: %v, error %d", got, e)
	}
}

// isNeeded is what P2.6 says of a row, found by a program whose answer is proved.
func isNeeded(t *testing.T, list []linear.Row, i int) bool {
	t.Helper()
	a := solve(t, linear.Program{Goal: list[i].Coefs, Rows: without(list, i)})
	return a.Outcome == api.Unending || a.Value.Cmp(list[i].Most) > 0
}

func TestP2_6NeededRandom(t *testing.T) {
	r := rand.New(rand.NewSource(33))
	var count [2]int
	for range 1500 {
		n := r.Intn(5)
		list := someRows(r, n, r.Intn(10))
		if r.Intn(4) == 0 {
			list = append(list, box(n, -1, 1)...)
		}
		got, e := linear.Needed(list, n)
		if !possible(t, list, n) {
			if e != api.ErrEmpty || len(got) != 0 {
				t.Fatalf("%v, error %d: %s", got, e, rowsText(list))
			}
			continue
		}
		if e != api.OK || len(got) != len(list) {
			t.Fatalf("%v, error %d:\n%s", got, e, rowsText(list))
		}
		for i, needed := range got {
			if needed != isNeeded(t, list, i) {
				t.Fatalf("row %d: %v of\n%s", i, needed, rowsText(list))
			}
			if needed {
				count[1]++
			} else {
				count[0]++
			}
		}
	}
	if count[0] < 500 || count[1] < 500 {
		t.Error("too few of one kind:", count)
	}
}

func TestP2_7Conflict(t *testing.T) {
	for _, c := range []struct {
		unknowns int
		rows     []string
		want     []int
	}{
		{1, []string{"1 <= 5", "1 <= 1", "-1 <= -2", "-1 <= -3"}, []int{1, 2}},
		{1, []string{"1 <= 1", "-1 <= -2"}, []int{0, 1}},
		{1, []string{"1 <= 1", "1 <= 1", "-1 <= -2", "-1 <= -2"}, []int{0, 2}},
		{1, []string{"-1 <= -2", "1 <= 1", "0 <= -1"}, []int{0, 1}},
		{1, []string{"0 <= -1", "-1 <= -2", "1 <= 1"}, []int{0}},
		{1, []string{"-1 <= -2", "0 <= -1", "1 <= 1"}, []int{1}},
		{0, []string{"<= 1", "<= -1", "<= -2"}, []int{1}},
		{2, []string{"1 0 <= 0", "0 1 <= 0", "-1 -1 <= -1", "-1 0 <= -1"}, []int{0, 1, 2}},
		{2, []string{"-1 0 <= -1", "1 0 <= 0", "0 1 <= 0", "-1 -1 <= -1"}, []int{0, 1}},
		{2, []string{"1 0 <= 5", "0 1 <= 5", "1 1 <= 3", "-1 0 <= -2", "0 -1 <= -2", "1 0 <= 1"}, []int{2, 3, 4}},
	} {
		if got, e := linear.Conflict(rows(t, c.rows...), c.unknowns); e != api.OK || !slices.Equal(got, c.want) {
			t.Errorf("%q: %v, error %d", c.rows, got, e)
		}
	}
}

func TestP2_7ConflictErrors(t *testing.T) {
	refuses(t, func(list []linear.Row, n int) (int, api.Errno) {
		got, e := linear.Conflict(list, n)
		return len(got), e
	})
	for n := range api.MaxUnknowns + 1 {
		if got, e := linear.Conflict(nil, n); len(got) != 0 || e != api.ErrPossible {
			t.Errorf("no rows, %d unknowns: %v, error %d", n, got, e)
		}
	}
	if got, e := linear.Conflict(rows(t, "1 <= 1", "-1 <= -1"), 1); len(got) != 0 || e != api.ErrPossible {
		t.Errorf("rows that a point keeps: %v, error %d", got, e)
	}
	if got, e := linear.Conflict(rows(t, "<= 0"), 0); len(got) != 0 || e != api.ErrPossible {
		t.Errorf("no unknowns: %v, error %d", got, e)
	}
}

// conflictRows is what P2.7 says, found as it says.
func conflictRows(t *testing.T, list []linear.Row, unknowns int) []int {
	t.Helper()
	kept := make([]int, len(list))
	for i := range kept {
		kept[i] = i
	}
	for i := len(list) - 1; i >= 0; i-- {
		at := slices.Index(kept, i)
		rest := slices.Delete(slices.Clone(kept), at, at+1)
		var left []linear.Row
		for _, k := range rest {
			left = append(left, list[k])
		}
		if !possible(t, left, unknowns) {
			kept = rest
		}
	}
	return kept
}

func TestP2_7ConflictRandom(t *testing.T) {
	r := rand.New(rand.NewSource(34))
	var sizes [6]int
	for range 3000 {
		n := r.Intn(5)
		list := someRows(r, n, r.Intn(11))
		got, e := linear.Conflict(list, n)
		if possible(t, list, n) {
			if e != api.ErrPossible || len(got) != 0 {
				t.Fatalf("%v, error %d: %s", got, e, rowsText(list))
			}
			continue
		}
		if want := conflictRows(t, list, n); e != api.OK || !slices.Equal(got, want) {
			t.Fatalf("%v, not %v, error %d:\n%s", got, want, e, rowsText(list))
		}
		sizes[len(got)]++
	}
	for size := 1; size < 5; size++ {
		if sizes[size] < 20 {
			t.Error("too few conflicts of a size:", sizes)
		}
	}
}

func TestP2_10Conflicts(t *testing.T) {
	r := rand.New(rand.NewSource(35))
	found := 0
	for range 400 {
		n := 1 + r.Intn(8)
		list := someRows(r, n, 5+r.Intn(20))
		numbers, e := linear.Conflict(list, n)
		if e != api.OK {
			continue
		}
		found++
		var those []linear.Row
		for _, i := range numbers {
			those = append(those, list[i])
		}
		if possible(t, those, n) || !slices.IsSorted(numbers) {
			t.Fatalf("%v is no conflict:\n%s", numbers, rowsText(list))
		}
		for i := range those {
			if !possible(t, without(those, i), n) {
				t.Fatalf("%v has one row too many:\n%s", numbers, rowsText(list))
			}
		}
	}
	if found < 50 {
		t.Error("too few conflicts:", found)
	}
}

// TestP2_6Greatest looks for needed rows of a program of the greatest size.
func TestP2_6Greatest(t *testing.T) {
	r := rand.New(rand.NewSource(36))
	n := api.MaxUnknowns
	list := box(n, -3, 3)
	for len(list) < api.MaxRows { // 0 keeps them
		list = append(list, linear.Row{Coefs: someNumbers(r, 0, n), Most: exact.Int(int64(r.Intn(200)))})
	}
	got, e := linear.Needed(list, n)
	if e != api.OK || len(got) != api.MaxRows {
		t.Fatalf("%v, error %d", got, e)
	}
	for i := 0; i < api.MaxRows; i += 3 {
		if got[i] != isNeeded(t, list, i) {
			t.Errorf("row %d: %v", i, got[i])
		}
	}
}

// TestP2_7Greatest looks for a conflict in a program of the greatest size.
func TestP2_7Greatest(t *testing.T) {
	r := rand.New(rand.NewSource(40))
	n := api.MaxUnknowns
	list := box(n, -3, 3)
	for len(list) < api.MaxRows-1 { // 0 keeps them
		list = append(list, linear.Row{Coefs: someNumbers(r, 0, n), Most: exact.Int(int64(r.Intn(200)))})
	}
	last := linear.Row{Coefs: zeros(n), Most: exact.Int(int64(-3*n - 1))}
	var want []int
	for j := range n { // the sum would have to be less than the lower ends of the box allow
		last.Coefs[j] = exact.Int(1)
		want = append(want, 2*j+1)
	}
	list = append(list, last)
	got, e := linear.Conflict(list, n)
	if e != api.OK || !slices.Equal(got, conflictRows(t, list, n)) {
		t.Errorf("%v, error %d", got, e)
	}
	for i := 2 * n; i < len(list)-1; i++ { // rows that never fail
		list[i].Most = exact.Int(1000)
	}
	if got, e := linear.Conflict(list, n); e != api.OK || !slices.Equal(got, append(want, api.MaxRows-1)) {
		t.Errorf("%v, error %d", got, e)
	}
}
