package damage_test

import (
	"math/rand"
	"slices"
	"strings"
	"testing"

	"voussoir/api"
	"voussoir/damage"
)

// checkLiars checks the sets that Liars returns.
func checkLiars(t *testing.T, w damage.Watch, want [][]int) {
	t.Helper()
	got, e := damage.Liars(w)
	if e != api.OK || !slices.EqualFunc(got, want, slices.Equal[[]int]) {
		t.Errorf("error %d, sets %q, not %q: %s", e, setTexts(got), setTexts(want), watchText(w))
	}
}

// witnesses returns the watch of the first example with a sensor of the same
// kind for each word of a text, which has read the values of the word, such as
// 6 20,21.
func witnesses(s string) damage.Watch {
	w := example()
	own := w.Sensors[0]
	w.Sensors, w.Readings = nil, nil
	for i, word := range strings.Fields(s) {
		w.Sensors = append(w.Sensors, own)
		for value := range strings.SplitSeq(word, ",") {
			if value != "" {
				w.Readings = append(w.Readings, damage.Reading{Sensor: i, Value: num(value)})
			}
		}
	}
	return w
}

func TestP6_7Liars(t *testing.T) {
	for _, c := range []struct {
		shown string
		want  [][]int
	}{
		{"", [][]int{nil}},
		{"6", [][]int{nil}},
		{",", [][]int{nil}},
		{"6 6", [][]int{nil}},
		{"6 9", [][]int{nil}}, // 3/2 more and 3/2 less
		{"6 91/10", [][]int{{0}, {1}}},
		{"6 20", [][]int{{0}, {1}}}, // the document's fourth example
		{"99", [][]int{{0}}},
		{"6 99", [][]int{{1}}},
		{"99 6", [][]int{{0}}},
		{"99 , 6", [][]int{{0}}},
		{"6,9", [][]int{{0}}}, // it is wrong by 1/2 at most
		{"6,7", [][]int{nil}},
		{"6 6 20", [][]int{{2}}},
		{"6 20 6", [][]int{{1}}},
		{"6 13 20", [][]int{{0, 1}, {0, 2}, {1, 2}}},
		{"6 20 1,9", [][]int{{0, 2}, {1, 2}}},
		{"1,9 20 6", [][]int{{0, 1}, {0, 2}}},
		{"6 6 20 20", [][]int{{0, 1}, {2, 3}}},
		{"6 20 20 6", [][]int{{0, 3}, {1, 2}}},
		{"20 6 20 6", [][]int{{0, 2}, {1, 3}}},
		{"6 20 , 6", [][]int{{1}}},
		{"6 12 18 24", [][]int{{0, 1, 2}, {0, 1, 3}, {0, 2, 3}, {1, 2, 3}}},
		{"99 99 99 99", [][]int{{0, 1, 2, 3}}},
		{"99 99 6 99", [][]int{{0, 1, 3}}},
		{"3 6 9 12", [][]int{{0, 1}, {0, 3}, {2, 3}}},
		{"5 6 15/2 17/2", [][]int{{0}, {3}}},
	} {
		checkLiars(t, witnesses(c.shown), c.want)
	}
	checkLiars(t, damage.Watch{}, [][]int{nil})
	checkLiars(t, hanging(), liarsOf(hanging()))
}

// TestP6_7Many compares the sets with all that one may leave out.
func TestP6_7Many(t *testing.T) {
	r := rand.New(rand.NewSource(67))
	count := map[int]int{}
	for range 300 {
		n := someSize(r, 4)
		n.sensors, n.readings = 1+r.Intn(api.MaxSensors), 2+r.Intn(9)
		w := someWatch(r, n)
		want := liarsOf(w)
		checkLiars(t, w, want)
		count[len(want[0])]++
	}
	for size := range 3 {
		if count[size] < 15 {
			t.Error("too few of a kind", count)
		}
	}
}

// TestP6_7Great leaves out sensors of a watch of the greatest size, of which two
// are wrong by far.
func TestP6_7Great(t *testing.T) {
	r := rand.New(rand.NewSource(671))
	w := greatWatch(r, true).Watch
	checkLiars(t, w, [][]int{nil})
	for i, y := range w.Readings {
		if y.Sensor%2 == 1 {
			w.Readings[i].Value = y.Value.Plus(num("1000000000000000000000000000000"))
		}
	}
	checkLiars(t, w, [][]int{{1, 3}})
}
