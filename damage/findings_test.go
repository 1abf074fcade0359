package damage_test

import (
	"math/rand"
	"slices"
	"testing"

	"voussoir/api"
	"voussoir/damage"
	"voussoir/exact"
)

// checkFindings checks what Findings returns.
func checkFindings(t *testing.T, w damage.Watch, limit string, want ...api.Finding) {
	t.Helper()
	if got, e := damage.Findings(w, num(limit)); e != api.OK || !slices.Equal(got, want) {
		t.Errorf("limit %s: error %d, %v, not %v: %s", limit, e, got, want, watchText(w))
	}
}

func TestP6_5Example(t *testing.T) {
	w := example() // the factor is from 3/2 to 5/2
	for limit, want := range map[string]api.Finding{
		"5/4": api.Damaged, "3": api.Sound, "2": api.Unsure, "-7": api.Damaged, "0": api.Damaged, "1499/1000": api.Damaged,
		"3/2": api.Unsure, "1501/1000": api.Unsure, "2499/1000": api.Unsure, "5/2": api.Sound, "1000000000000000000000": api.Sound,
	} {
		checkFindings(t, w, limit, want)
	}
	w.Readings = readings("0 0 0 0 3/2") // the factor is 1
	checkFindings(t, w, "1", api.Sound)
	checkFindings(t, w, "99/100", api.Damaged)
	w.Readings = nil
	checkFindings(t, w, "10", api.Sound)
	checkFindings(t, w, "1", api.Unsure)
	checkFindings(t, w, "999/100", api.Unsure)
	checkFindings(t, damage.Watch{}, "1")
}

func TestP6_5Hanging(t *testing.T) {
	w := hanging()
	w.Sensors = sensors("strain 1; 1/2; 0..0 0..0 0..0", "move 4; 0; 0..0 0..0 0..0")
	w.Readings = readings("0 0 0 0 -6", "1 0 0 0 6") // the factors are from 35/6 to 37/6 and from 11/6 to 13/6
	checkFindings(t, w, "1", api.Damaged, api.Damaged)
	checkFindings(t, w, "2", api.Damaged, api.Unsure)
	checkFindings(t, w, "3", api.Damaged, api.Sound)
	checkFindings(t, w, "6", api.Unsure, api.Sound)
	checkFindings(t, w, "7", api.Sound, api.Sound)
}

func TestP6_5Errors(t *testing.T) {
	w := example()
	w.Readings = readings("0 0 0 0 99")
	for _, limit := range []string{"-1", "2", "1000"} {
		refused(t, "Findings", askFindings(num(limit)), w, api.ErrDisagree)
	}
}

func TestP6_5Many(t *testing.T) {
	r := rand.New(rand.NewSource(65))
	count := map[api.Finding]int{}
	for range 200 {
		w := someWatch(r, someSize(r, 5))
		factors, ok := reachOf(w)
		if !ok {
			refused(t, "Findings", askFindings(someQ(r, 0, 8)), w, api.ErrDisagree)
			continue
		}
		for i := range factors {
			limit := someLimit(r, factors[i])
			want := findingsOf(factors, limit)
			checkFindings(t, w, limit.Text(), want...)
			count[want[i]]++
		}
	}
	for _, finding := range []api.Finding{api.Sound, api.Damaged, api.Unsure} {
		if count[finding] < 20 {
			t.Error("too few of a kind", count)
		}
	}
}

// excludes checks what Excludes returns.
func excludes(t *testing.T, w damage.Watch, bar int, limit string, weights []exact.Q, want bool) {
	t.Helper()
	if got, e := damage.Excludes(w, bar, num(limit), weights); e != api.OK || got != want {
		t.Errorf("bar %d, limit %s, weights %s: error %d, %v: %s", bar, limit, texts(weights), e, got, watchText(w))
	}
}

// exclude checks that Exclude returns weights that exclude a factor.
func exclude(t *testing.T, w damage.Watch, bar int, limit string) {
	t.Helper()
	weights, e := damage.Exclude(w, bar, num(limit))
	if e != api.OK || len(weights) != 2*len(spansOf(w))+2*len(w.Readings) || !excluded(w, bar, num(limit), weights) {
		t.Errorf("bar %d, limit %s: error %d, weights %s: %s", bar, limit, e, texts(weights), watchText(w))
		return
	}
	excludes(t, w, bar, limit, weights, true)
}

func TestP6_6Exclude(t *testing.T) {
	w := example()
	for _, limit := range []string{"5/2", "2501/1000", "3", "10", "1000000000000000000000"} {
		exclude(t, w, 0, limit)
	}
	for _, limit := range []string{"2499/1000", "2", "1", "0", "-5"} {
		refused(t, "limit "+limit, askExclude(0, num(limit)), w, api.ErrNone)
	}
	w.Readings = nil
	exclude(t, w, 0, "10")
	refused(t, "no readings", askExclude(0, num("9")), w, api.ErrNone)
	h := hanging()
	h.Sensors = sensors("strain 1; 1/2; 0..0 0..0 0..0", "move 4; 0; 0..0 0..0 0..0")
	h.Readings = readings("0 0 0 0 -6", "1 0 0 0 6")
	exclude(t, h, 0, "37/6")
	exclude(t, h, 1, "13/6")
	refused(t, "bar 0", askExclude(0, num("3083/500")), h, api.ErrNone)
	refused(t, "bar 1", askExclude(1, num("2")), h, api.ErrNone)
}

func TestP6_6Excludes(t *testing.T) {
	w := example()
	for weights, want := range map[string]bool{
		"0 0 0 1/3 0 0 0 0 1/3 0":             true,
		"1 0 0 0 0 0 0 0 0 0":                 false, // at most 10
		"0 0 0 1/3 0 0 0 0 1/3 1/1000":        false, // not 1 for the factor
		"0 0 0 1/3 1/7 0 0 0 1/3 0":           false, // not 0 for the drift
		"0 0 0 1/3 0 0 1/7 0 1/3 0":           false, // not 0 for the reaction
		"0 0 0 1/3 1/7 1/7 8 8 1/3 0":         true,
		"0 0 1/2 5/6 0 0 0 0 1/3 0":           false, // above 5/2
		"0 0 1/2 1/2 0 0 0 0 1/3 0":           false, // not 0 for the offset
		"0 0 -1/3 0 0 0 0 0 1/3 0":            false, // negative
		"0 0 0 1/3 -1 -1 0 0 1/3 0":           false,
		"0 0 0 0 0 0 0 0 0 0":                 false,
		"0 0 0 2/3 0 0 0 0 2/3 0":             false,
		"0 1 0 2/3 0 0 0 0 2/3 0":             false,
		"1 0 0 1/3 0 0 0 0 1/3 0":             false,
		"0 0 1/1000000000000 1/3 0 0 0 0 0 0": false,
	} {
		excludes(t, w, 0, "5/2", nums(weights), want)
	}
	proof := nums("0 0 0 1/3 0 0 0 0 1/3 0")
	for limit, want := range map[string]bool{"5/2": true, "13/5": true, "99": true, "249/100": false, "0": false, "-5/2": false} {
		excludes(t, w, 0, limit, proof, want)
	}
	excludes(t, w, 0, "10", nums("1 0 0 0 0 0 0 0 0 0"), true)
	excludes(t, w, 0, "3", nums("0 0 1/2 5/6 0 0 0 0 1/3 0"), false)
	excludes(t, w, 0, "7/2", nums("0 0 1/2 5/6 0 0 0 0 1/3 0"), true)
	h := hanging()
	h.Readings = nil
	first, second := nums("1 0 0 0 0 0 0 0 0 0 0 0 0 0 0 0"), nums("0 0 1 0 0 0 0 0 0 0 0 0 0 0 0 0")
	excludes(t, h, 0, "10", first, true)
	excludes(t, h, 1, "10", first, false)
	excludes(t, h, 0, "10", second, false)
	excludes(t, h, 1, "4", second, true)
}

func TestP6_6Errors(t *testing.T) {
	disagree := example()
	disagree.Readings = readings("0 0 0 0 99")
	proof := nums("0 0 0 1/3 0 0 0 0 1/3 0")
	for _, w := range []damage.Watch{example(), disagree} {
		for _, bar := range append(extremes(), -1, 1, 2) {
			refused(t, "Exclude of a bar", askExclude(bar, num("3")), w, api.ErrRange)
			refused(t, "Excludes of a bar", askExcludes(bar, num("3"), proof), w, api.ErrRange)
			refused(t, "Excludes of a bar, by nothing", askExcludes(bar, num("3"), nil), w, api.ErrRange)
		}
		for _, weights := range [][]exact.Q{nil, proof[:9], append(proof[:10:10], exact.Q{}), make([]exact.Q, 1000), nums("-1")} {
			refused(t, "Excludes by too many or few", askExcludes(0, num("3"), weights), w, api.ErrArg)
		}
	}
	for _, limit := range []string{"-1", "2", "10", "1000"} {
		refused(t, "Exclude without an explanation", askExclude(0, num(limit)), disagree, api.ErrDisagree)
	}
	refused(t, "Exclude of nothing", askExclude(0, num("3")), damage.Watch{}, api.ErrRange)
	refused(t, "Excludes of nothing", askExcludes(0, num("3"), nil), damage.Watch{}, api.ErrRange)
}

// TestP6_6WithoutExplanation checks weights where there is no explanation: some
// exclude any factor there.
func TestP6_6WithoutExplanation(t *testing.T) {
	w := example()
	w.Readings = readings("0 0 0 0 0")
	excludes(t, w, 0, "1/2", nums("0 0 0 1/3 0 0 0 0 1/3 0"), true)
	excludes(t, w, 0, "0", nums("0 1 0 2/3 0 0 0 0 2/3 0"), true)
	excludes(t, w, 0, "-1", nums("0 2 0 1 0 0 0 0 1 0"), false)
	excludes(t, w, 0, "-100", nums("0 299 0 100 0 0 0 0 100 0"), true)
}

// TestP6_6Many asks for weights at limits at random, and checks them.
func TestP6_6Many(t *testing.T) {
	r := rand.New(rand.NewSource(66))
	count := map[string]int{}
	for range 150 {
		w := someWatch(r, someSize(r, 5))
		factors, ok := reachOf(w)
		for bar := range w.Truss.Bars {
			if !ok {
				refused(t, "Exclude", askExclude(bar, someQ(r, 0, 8)), w, api.ErrDisagree)
				count["no explanation"]++
				continue
			}
			limit := someLimit(r, factors[bar])
			if limit.Cmp(factors[bar].High) >= 0 {
				exclude(t, w, bar, limit.Text())
				count["excluded"]++
			} else {
				refused(t, "Exclude", askExclude(bar, limit), w, api.ErrNone)
				count["none"]++
			}
		}
	}
	for _, kind := range []string{"no explanation", "excluded", "none"} {
		if count[kind] < 30 {
			t.Error("too few of a kind", count)
		}
	}
}

// spoiled returns lists of weights that differ from a list in one or two places,
// so that it still may exclude.
func spoiled(r *rand.Rand, weights []exact.Q) [][]exact.Q {
	var list [][]exact.Q
	for i := range weights {
		one := slices.Clone(weights)
		one[i] = one[i].Plus(someQ(r, -1, 1))
		pair := slices.Clone(weights)
		more := someQ(r, 0, 1)
		pair[i], pair[i^1] = pair[i].Plus(more), pair[i^1].Plus(more)
		list = append(list, one, pair)
	}
	return list
}

// TestP6_6Spoiled shows Excludes weights that have been changed, of the same bar
// and limit or of others.
func TestP6_6Spoiled(t *testing.T) {
	r := rand.New(rand.NewSource(661))
	both := [2]int{}
	for range 40 {
		w := someWatch(r, someSize(r, 3))
		factors, ok := reachOf(w)
		if !ok || len(factors) == 0 {
			continue
		}
		bar := r.Intn(len(factors))
		weights, e := damage.Exclude(w, bar, factors[bar].High)
		if e != api.OK {
			t.Fatalf("error %d: %s", e, watchText(w))
		}
		for _, shown := range append(spoiled(r, weights), weights) {
			for _, limit := range []exact.Q{factors[bar].High, someLimit(r, factors[bar]), whole(100)} {
				of := (bar + r.Intn(4)/3) % len(factors)
				want := excluded(w, of, limit, shown)
				excludes(t, w, of, limit.Text(), shown, want)
				both[boolInt(want)]++
			}
		}
	}
	if both[0] < 100 || both[1] < 100 {
		t.Error("too few of a kind", both)
	}
}

// TestP6_6Great proves something of a watch of the greatest size.
func TestP6_6Great(t *testing.T) {
	r := rand.New(rand.NewSource(662))
	w := greatWatch(r, true).Watch
	for _, bar := range []int{0, api.MaxSensed - 1} {
		exclude(t, w, bar, "1000")
		high, _, _ := best(halves(w), unit(len(spansOf(w)), bar))
		limit := fromRat(high)
		exclude(t, w, bar, limit.Text())
		refused(t, "below the greatest", askExclude(bar, limit.Minus(num("1/1000000000000000000000000"))), w, api.ErrNone)
	}
}
