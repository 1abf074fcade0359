package damage_test

import (
	"math/rand"
	"slices"
	"testing"

	"voussoir/api"
	"voussoir/damage"
	"voussoir/exact"
	"voussoir/linear"
)

// TestP6_8 lets structures be read: nothing that is so in truth is excluded.
func TestP6_8(t *testing.T) {
	r := rand.New(rand.NewSource(68))
	count := map[api.Finding]int{}
	for range 150 {
		x := someStructure(r, someSize(r, 5))
		factors, e := damage.Factors(x.Watch)
		if e != api.OK || len(factors) != len(x.Worst) {
			t.Fatalf("error %d, %s: %s", e, spanTexts(factors), watchText(x.Watch))
		}
		explain(t, x.Watch, fromRats(x.truth[:len(factors)]), true)
		for bar, s := range factors {
			truth := fromRat(x.truth[bar])
			if !s.Has(truth) {
				t.Fatalf("the factor %s of the bar %d is not in %s: %s", truth.Text(), bar, spanText(s), watchText(x.Watch))
			}
			for _, limit := range []exact.Q{truth, truth.Minus(num("1/1000000")), someLimit(r, s)} {
				count[x.checkTrue(t, bar, limit)]++
			}
		}
	}
	for _, finding := range []api.Finding{api.Sound, api.Damaged, api.Unsure} {
		if count[finding] < 50 {
			t.Error("too few of a kind", count)
		}
	}
}

// checkTrue checks that nothing is said of a bar that is not so in truth, and
// returns what is said.
func (x structure) checkTrue(t *testing.T, bar int, limit exact.Q) api.Finding {
	t.Helper()
	above := fromRat(x.truth[bar]).Cmp(limit) > 0
	findings, e := damage.Findings(x.Watch, limit)
	_, none := damage.Exclude(x.Watch, bar, limit)
	if e != api.OK || above && (findings[bar] == api.Sound || none != api.ErrNone) || !above && findings[bar] == api.Damaged {
		t.Fatalf("bar %d with %s, limit %s: error %d, %v, error %d of Exclude: %s", bar, x.truth[bar].RatString(), limit.Text(), e, findings, none, watchText(x.Watch))
	}
	return findings[bar]
}

// TestP6_8Weights shows Excludes weights at random that prove something of true
// structures: never what is not so.
func TestP6_8Weights(t *testing.T) {
	r := rand.New(rand.NewSource(681))
	both := [2]int{}
	for range 60 {
		x := someStructure(r, someSize(r, 3))
		if len(x.Worst) == 0 {
			continue
		}
		bar := r.Intn(len(x.Worst))
		truth := fromRat(x.truth[bar])
		weights, e := damage.Exclude(x.Watch, bar, whole(1000))
		if e != api.OK {
			t.Fatalf("error %d: %s", e, watchText(x.Watch))
		}
		for _, shown := range append(spoiled(r, weights), weights) {
			excludes(t, x.Watch, bar, truth.Minus(num("1/1000000")).Text(), shown, false)
			excludes, _ := damage.Excludes(x.Watch, bar, whole(100), shown)
			both[boolInt(excludes)]++
		}
	}
	if both[0] < 50 || both[1] < 50 {
		t.Error("too few of a kind", both)
	}
}

// TestP6_9Sound checks that a bar is Sound just if Exclude returns weights, and
// that Excludes accepts them.
func TestP6_9Sound(t *testing.T) {
	r := rand.New(rand.NewSource(69))
	both := [2]int{}
	for range 150 {
		w := someWatch(r, someSize(r, 5))
		for bar := range w.Worst {
			limit := someQ(r, 0, 8)
			findings, e := damage.Findings(w, limit)
			weights, e2 := damage.Exclude(w, bar, limit)
			if e != api.OK {
				refused(t, "Exclude", askExclude(bar, limit), w, api.ErrDisagree)
				continue
			}
			sound := findings[bar] == api.Sound
			both[boolInt(sound)]++
			if sound != (e2 == api.OK) || !sound && e2 != api.ErrNone {
				t.Fatalf("bar %d, limit %s: %v, error %d: %s", bar, limit.Text(), findings, e2, watchText(w))
			}
			if sound {
				excludes(t, w, bar, limit.Text(), weights, true)
			}
		}
	}
	if both[0] < 50 || both[1] < 50 {
		t.Error("too few of a kind", both)
	}
}

// TestP6_9More adds readings: what has been found stays.
func TestP6_9More(t *testing.T) {
	r := rand.New(rand.NewSource(691))
	var stayed, sharper int
	for range 150 {
		x := someStructure(r, someSize(r, 5))
		more := x.narrower(r)
		limit := someQ(r, 0, 8)
		before, e1 := damage.Findings(x.Watch, limit)
		after, e2 := damage.Findings(more.Watch, limit)
		if e1 != api.OK || e2 != api.OK {
			t.Fatalf("errors %d, %d: %s", e1, e2, watchText(more.Watch))
		}
		for i := range before {
			if before[i] != api.Unsure && after[i] != before[i] {
				t.Fatalf("limit %s: %v became %v: %s", limit.Text(), before, after, watchText(more.Watch))
			}
			stayed += boolInt(before[i] != api.Unsure)
			sharper += boolInt(before[i] != after[i])
		}
	}
	if stayed < 50 || sharper < 10 {
		t.Error("too few of a kind", stayed, sharper)
	}
}

// TestP6_10Explains checks that factors are explained just if they lie on rows
// that are kept: an explanation found from the moves of the truss keeps them,
// and where there are no rows left, nothing is explained.
func TestP6_10Explains(t *testing.T) {
	r := rand.New(rand.NewSource(610))
	both := [2]int{}
	for range 150 {
		x := someStructure(r, someSize(r, 4))
		factors := x.someFactors(r)
		rows, e1 := damage.Rows(x.Watch)
		explains, e2 := damage.Explains(x.Watch, factors)
		if e1 != api.OK || e2 != api.OK {
			t.Fatalf("errors %d, %d: %s", e1, e2, watchText(x.Watch))
		}
		both[boolInt(explains)]++
		if explains {
			point, _ := explainedBy(x.Watch, rats(factors))
			if keeps, e := linear.Keeps(rows, fromRats(point)); e != api.OK || !keeps {
				t.Fatalf("error %d, %s keeps no rows: %s", e, texts(fromRats(point)), watchText(x.Watch))
			}
			continue
		}
		for i, f := range rats(factors) {
			for _, h := range halvesOf(unit(len(x.truth), i), exact.Between(fromRat(f), fromRat(f))) {
				rows = append(rows, linear.Row{Coefs: fromRats(h.coefs), Most: fromRat(h.most)})
			}
		}
		if _, e := linear.Range(rows, make([]exact.Q, len(x.truth))); e != api.ErrEmpty {
			t.Fatalf("error %d, factors %s are on rows: %s", e, texts(factors), watchText(x.Watch))
		}
	}
	if both[0] < 30 || both[1] < 30 {
		t.Error("too few of a kind", both)
	}
}

// TestP6_10Foresee foresees what sensors show that are never wrong.
func TestP6_10Foresee(t *testing.T) {
	r := rand.New(rand.NewSource(6101))
	checked := 0
	for range 150 {
		x := someStructure(r, someSize(r, 5))
		free := freeOf(x.Truss)
		if len(free) == 0 {
			continue
		}
		right := damage.Sensor{At: free[r.Intn(len(free))]}
		x.Sensors = append(x.Sensors, right)
		x.truth = append(x.truth, unit(3, -1)...)
		for range 1 + r.Intn(3) {
			y := x.someReading(r)
			y.Sensor = len(x.Sensors) - 1
			y.Value = fromRat(shownBy(x.Watch, y, x.truth))
			x.Readings = slices.Insert(x.Readings, r.Intn(len(x.Readings)+1), y)
			foresee(t, x.Watch, x.Cases[y.Case], right.At, y.Value.Text()+".."+y.Value.Text())
			checked++
		}
	}
	if checked < 100 {
		t.Error("too few readings", checked)
	}
}
