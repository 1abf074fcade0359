package damage_test

import (
	"math/rand"
	"slices"
	"strings"
	"testing"

	"voussoir/api"
	"voussoir/damage"
	"voussoir/exact"
)

// told returns all that is told of a watch, as one text.
func told(w damage.Watch, factors []exact.Q, pushes []api.Push, limit exact.Q) string {
	rows, e1 := damage.Rows(w)
	explains, e2 := damage.Explains(w, factors)
	spans, e3 := damage.Factors(w)
	move, e4 := damage.Foresee(w, pushes, 0)
	findings, e5 := damage.Findings(w, limit)
	weights, e6 := damage.Exclude(w, 0, limit)
	excludes, e7 := damage.Excludes(w, 0, limit, weights)
	sets, e8 := damage.Liars(w)
	var kinds []int
	for _, f := range findings {
		kinds = append(kinds, int(f))
	}
	for _, e := range []api.Errno{damage.Check(w), e1, e2, e3, e4, e5, e6, e7, e8} {
		kinds = append(kinds, int(e))
	}
	lines := append(rowTexts(rows), spanTexts(spans), spanText(move), texts(weights), setTexts(sets), intTexts(kinds),
		intTexts([]int{boolInt(explains), boolInt(excludes)}))
	return strings.Join(lines, "\n")
}

// TestP1Great asks all of watches of the greatest size, with the greatest
// numbers and with different fractions everywhere.
func TestP1Great(t *testing.T) {
	r := rand.New(rand.NewSource(1))
	for _, long := range []bool{false, true} {
		x := greatWatch(r, long)
		if e := damage.Check(x.Watch); e != api.OK {
			t.Fatalf("error %d: %s", e, watchText(x.Watch))
		}
		explain(t, x.Watch, fromRats(x.truth[:api.MaxSensed]), true)
		findings, e := damage.Findings(x.Watch, whole(api.MaxWorst))
		if e != api.OK || !slices.Equal(findings, slices.Repeat([]api.Finding{api.Sound}, api.MaxSensed)) {
			t.Errorf("error %d, %v: %s", e, findings, watchText(x.Watch))
		}
	}
}

// TestR4ArgumentsStay checks that no function changes its arguments, and R10:
// that the same is told again.
func TestR4ArgumentsStay(t *testing.T) {
	r := rand.New(rand.NewSource(4))
	list := []damage.Watch{example(), hanging(), witnesses("6 20 20 6"), fullWatch()}
	for range 20 {
		list = append(list, someWatch(r, someSize(r, 5)))
	}
	for _, w := range list {
		before := watchText(w)
		factors, pushes, limit := slices.Repeat(nums("2"), len(w.Worst)), make([]api.Push, len(w.Truss.Joints)), num("4")
		first := told(w, factors, pushes, limit)
		if second := told(w, factors, pushes, limit); first != second {
			t.Errorf("%s\nthen\n%s\nof %s", first, second, before)
		}
		if after := watchText(w); after != before || texts(factors) != texts(slices.Repeat(nums("2"), len(w.Worst))) {
			t.Errorf("%s\nbecame\n%s, factors %s", before, after, texts(factors))
		}
	}
	proof := nums("0 0 0 1/3 0 0 0 0 1/3 0")
	excludes(t, example(), 0, "5/2", proof, true)
	if texts(proof) != "0 0 0 1/3 0 0 0 0 1/3 0" {
		t.Error("weights became", texts(proof))
	}
}

// spoil overwrites numbers, also those that there is room for behind them.
func spoil(list []exact.Q) {
	list = list[:cap(list)]
	for i := range list {
		list[i] = num("77")
	}
}

// TestR4RowsAreNew overwrites rows: no other row changes with them.
func TestR4RowsAreNew(t *testing.T) {
	w := hanging()
	before := watchText(w)
	rows, _ := damage.Rows(w)
	want := rowTexts(rows)
	for i := range rows {
		spoil(rows[i].Coefs)
		if got := rowTexts(rows); !slices.Equal(got[i+1:], want[i+1:]) {
			t.Errorf("row %d: %q", i, got)
		}
	}
	if watchText(w) != before {
		t.Errorf("%s\nbecame\n%s", before, watchText(w))
	}
	checkRows(t, w, want...)
}

// TestR4SetsAreNew overwrites sets of liars: no other set changes with them.
func TestR4SetsAreNew(t *testing.T) {
	w := witnesses("6 12 18 24")
	sets, _ := damage.Liars(w)
	for i, want := range [][][]int{{{0, 1, 3}, {0, 2, 3}, {1, 2, 3}}, {{0, 2, 3}, {1, 2, 3}}, {{1, 2, 3}}, nil} {
		set := sets[i][:cap(sets[i])]
		for k := range set {
			set[k] = 77
		}
		if setTexts(sets[i+1:]) != setTexts(want) {
			t.Errorf("set %d: %s", i, setTexts(sets))
		}
	}
	checkLiars(t, w, [][]int{{0, 1, 2}, {0, 1, 3}, {0, 2, 3}, {1, 2, 3}})
}

// TestR3Empty checks that lists that are empty mean the same as none.
func TestR3Empty(t *testing.T) {
	w := damage.Watch{Truss: api.Truss{Joints: []api.Joint{joint(0, 0, "xy")}}}
	empty := damage.Watch{Truss: api.Truss{Joints: w.Truss.Joints, Bars: []api.Bar{}}, Worst: []int{}, Cases: [][]api.Push{}, Sensors: []damage.Sensor{}, Readings: []damage.Reading{}}
	pushes := pushed(1, 2)
	if a, b := told(w, nil, pushes, num("4")), told(empty, []exact.Q{}, pushes, num("4")); a != b || !strings.Contains(a, "0..0") {
		t.Errorf("%s\nand\n%s", a, b)
	}
	nothing := damage.Watch{Cases: [][]api.Push{nil, {}}}
	if e := damage.Check(nothing); e != api.OK {
		t.Errorf("a case without joints: error %d", e)
	}
}
