package damage_test

import (
	"math/big"
	"math/rand"
	"slices"
	"testing"

	"voussoir/api"
	"voussoir/damage"
	"voussoir/exact"
	"voussoir/linear"
)

// checkRows checks the texts of the rows of a watch.
func checkRows(t *testing.T, w damage.Watch, want ...string) {
	t.Helper()
	rows, e := damage.Rows(w)
	if got := rowTexts(rows); e != api.OK || !slices.Equal(got, want) {
		t.Errorf("error %d, rows %q: %s", e, got, watchText(w))
	}
}

func TestP6_2Example(t *testing.T) {
	w := example()
	checkRows(t, w,
		"1 0 0 0 <= 10", "-1 0 0 0 <= -1", "0 1 0 0 <= 1", "0 -1 0 0 <= 1", "0 0 1 0 <= 0", "0 0 -1 0 <= 0",
		"0 0 0 1 <= 0", "0 0 0 -1 <= 0", "3 1 0 0 <= 13/2", "-3 -1 0 0 <= -11/2")
	w.Sensors, w.Readings = nil, nil
	checkRows(t, w, "1 <= 10", "-1 <= -1")
	checkRows(t, damage.Watch{})
}

func TestP6_2Hanging(t *testing.T) {
	checkRows(t, hanging(),
		"1 0 0 0 0 0 0 0 <= 10", "-1 0 0 0 0 0 0 0 <= -1",
		"0 1 0 0 0 0 0 0 <= 4", "0 -1 0 0 0 0 0 0 <= -1",
		"0 0 1 0 0 0 0 0 <= 0", "0 0 -1 0 0 0 0 0 <= 0",
		"0 0 0 1 0 0 0 0 <= 1", "0 0 0 -1 0 0 0 0 <= 1",
		"0 0 0 0 1 0 0 0 <= 2", "0 0 0 0 -1 0 0 0 <= 0",
		"0 0 0 0 0 1 0 0 <= 1", "0 0 0 0 0 -1 0 0 <= 1",
		"0 0 0 0 0 0 1 0 <= 0", "0 0 0 0 0 0 -1 0 <= 0",
		"0 0 0 0 0 0 0 1 <= 1/2", "0 0 0 0 0 0 0 -1 <= -1/2",
		"0 -3 1 2 -3 0 0 0 <= -7/2", "0 3 -1 -2 3 0 0 0 <= 9/2",
		"3/4 3/4 0 0 0 1 5 7 <= 6", "-3/4 -3/4 0 0 0 -1 -5 -7 <= -6",
		"1/4 0 0 0 0 1 0 0 <= 1", "-1/4 0 0 0 0 -1 0 0 <= -1")
}

// TestP6_2Exchanged checks that a span means the same with its ends exchanged,
// and that nothing moves in a held direction.
func TestP6_2Exchanged(t *testing.T) {
	w := example()
	w.Sensors = sensors("move 3; 2; 4..-1 0..-1/3 -1/2..-3/4")
	w.Readings = readings("0 0 9999 -100 7/3")
	checkRows(t, w,
		"1 0 0 0 <= 10", "-1 0 0 0 <= -1", "0 1 0 0 <= 4", "0 -1 0 0 <= 1", "0 0 1 0 <= 0", "0 0 -1 0 <= 1/3",
		"0 0 0 1 <= -1/2", "0 0 0 -1 <= 3/4", "0 1 9999 -100 <= 13/3", "0 -1 -9999 100 <= -1/3")
}

// TestP6_2Many compares rows with those of math/big, one by one.
func TestP6_2Many(t *testing.T) {
	r := rand.New(rand.NewSource(62))
	for range 150 {
		w := someWatch(r, someSize(r, api.MaxSensed))
		checkHalves(t, w)
	}
	checkHalves(t, greatWatch(r, false).Watch)
	checkHalves(t, greatWatch(r, true).Watch)
	checkHalves(t, fullWatch())
}

// checkHalves compares the rows of a watch with those of math/big.
func checkHalves(t *testing.T, w damage.Watch) {
	t.Helper()
	rows, e := damage.Rows(w)
	want := halves(w)
	if e != api.OK || len(rows) != len(want) || len(want) != 2*len(spansOf(w))+2*len(w.Readings) {
		t.Fatalf("error %d, %d rows: %s", e, len(rows), watchText(w))
	}
	for i, row := range rows {
		if rat(row.Most).Cmp(want[i].most) != 0 || !same(rats(row.Coefs), want[i].coefs) {
			t.Fatalf("row %d is %s: %s", i, rowTexts(rows)[i], watchText(w))
		}
	}
}

// shifted returns a list of numbers, of which one may be changed.
func shifted(r *rand.Rand, list []*big.Rat, factors int) []*big.Rat {
	list = slices.Clone(list)
	if i := r.Intn(len(list)); r.Intn(3) > 0 {
		list[i] = plus(list[i], rat(someQ(r, -2, 2)))
		if i < factors && list[i].Sign() <= 0 {
			list[i] = fromInt(1) // there is no truss with such factors
		}
	}
	return list
}

// TestP6_2Kept checks that rows are kept just by the explanations, which are
// computed from the moves of the truss.
func TestP6_2Kept(t *testing.T) {
	r := rand.New(rand.NewSource(621))
	both := [2]int{}
	for range 150 {
		x := someStructure(r, someSize(r, 5))
		rows, e := damage.Rows(x.Watch)
		if e != api.OK {
			t.Fatalf("error %d: %s", e, watchText(x.Watch))
		}
		for range 4 {
			list := shifted(r, x.truth, len(x.Worst))
			want := isExplanation(x.Watch, list)
			if keeps, e := linear.Keeps(rows, fromRats(list)); e != api.OK || keeps != want {
				t.Fatalf("%v, error %d: %s: %s", keeps, e, texts(fromRats(list)), watchText(x.Watch))
			}
			both[boolInt(want)]++
		}
	}
	if both[0] < 100 || both[1] < 100 {
		t.Error("too few of a kind", both)
	}
}

// explain checks what Explains says of factors.
func explain(t *testing.T, w damage.Watch, factors []exact.Q, want bool) {
	t.Helper()
	if got, e := damage.Explains(w, factors); e != api.OK || got != want {
		t.Errorf("factors %s: %v, error %d: %s", texts(factors), got, e, watchText(w))
	}
}

func TestP6_3Example(t *testing.T) {
	w := example()
	for factors, want := range map[string]bool{
		"3/2": true, "2": true, "5/2": true, "1499/1000": false, "2501/1000": false,
		"1": false, "10": false, "0": false, "-2": false, "11": false, "100000000000000000000": false,
	} {
		explain(t, w, nums(factors), want)
	}
	w.Readings = readings("0 0 0 0 1") // it fits to factors from 0 on, but all are at least 1
	for factors, want := range map[string]bool{"5/6": false, "1/2": false, "1": false, "0": false} {
		explain(t, w, nums(factors), want)
	}
	w.Readings = readings("0 0 0 0 3")
	for factors, want := range map[string]bool{"1": true, "3/2": true, "9/10": false, "7/5": true} {
		explain(t, w, nums(factors), want)
	}
	w.Readings = readings("0 0 0 0 30") // it fits to factors up to 21/2
	for factors, want := range map[string]bool{"19/2": true, "10": true, "21/2": false, "101/10": false, "9": false} {
		explain(t, w, nums(factors), want)
	}
	w.Readings = nil
	for factors, want := range map[string]bool{"1": true, "10": true, "99/100": false, "1001/100": false} {
		explain(t, w, nums(factors), want)
	}
	explain(t, damage.Watch{}, nil, true)
}

func TestP6_3Hanging(t *testing.T) {
	w := hanging()
	w.Readings = readings("1 0 0 0 6")
	w.Sensors[1].Warm = span("0..0")
	for factors, want := range map[string]bool{ // 3/4 of their sum is from 5 to 7
		"6 2": true, "4 4": true, "8 4/3": true, "9 1/3": false, "5 1": false, "17/3 1": true, "16/3 4": true, "6 4": false, "8 1/2": false,
	} {
		explain(t, w, nums(factors), want)
	}
}

func TestP6_3Errors(t *testing.T) {
	for _, factors := range []string{"", "2 2", "2 2 2 2", "0 0"} {
		refused(t, "factors "+factors, askExplains(nums(factors)), example(), api.ErrArg)
	}
	refused(t, "one factor", askExplains(nums("2")), hanging(), api.ErrArg)
	refused(t, "a factor of no bar", askExplains(nums("2")), damage.Watch{}, api.ErrArg)
	wrong := example()
	wrong.Readings = readings("0 0 0 0 99")
	refused(t, "without an explanation", askExplains(nums("2 2")), wrong, api.ErrArg)
}

// someFactors returns factors for a structure: the true ones, or others near
// them, or a list that is out of its ranges.
func (x structure) someFactors(r *rand.Rand) []exact.Q {
	list := fromRats(x.truth[:len(x.Worst)])
	for i := range list {
		switch r.Intn(4) {
		case 0:
			list[i] = someIn(r, exact.Span{Low: whole(1), High: whole(x.Worst[i])})
		case 1:
			list[i] = list[i].Plus(someQ(r, -1, 1).Times(part(1, 4)))
		}
		if list[i].Sign() <= 0 {
			list[i] = whole(1)
		}
	}
	return list
}

func TestP6_3Many(t *testing.T) {
	r := rand.New(rand.NewSource(63))
	both := [2]int{}
	for range 200 {
		x := someStructure(r, someSize(r, 4))
		for range 3 {
			factors := x.someFactors(r)
			_, want := explainedBy(x.Watch, rats(factors))
			explain(t, x.Watch, factors, want)
			both[boolInt(want)]++
		}
	}
	if both[0] < 100 || both[1] < 100 {
		t.Error("too few of a kind", both)
	}
}
