package permit_test

import (
	"math/rand"
	"slices"
	"strconv"
	"strings"
	"testing"

	"voussoir/api"
	"voussoir/exact"
	"voussoir/moving"
	"voussoir/permit"
)

// heavy returns loads of as many axles as there may be, all of them different.
func heavy() []moving.Load {
	var v []moving.Load
	for i := range api.MaxAxles {
		v = append(v, moving.Load{Load: exact.Span{Low: part(i, 3), High: part(i*i+1, 7)}, Gap: part(min(i, api.MaxAxles-1-i), 5)})
	}
	return v
}

// TestP1GreatNet finds a way over as many bridges as there may be, each of them
// with as many members, points and impact factors as it may have.
func TestP1GreatNet(t *testing.T) {
	r := rand.New(rand.NewSource(1))
	n := greatestNet()
	for i := range n.Bridges {
		n.Bridges[i] = greatest()
		for k := range n.Bridges[i].Members {
			n.Bridges[i].Members[k].Dead = someSpan(r, -5, 5)
		}
	}
	v := permit.Transport{Loads: heavy(), To: api.MaxSpeed}
	for _, b := range n.Bridges[:2] {
		x, limited, e := permit.Rate(b, v)
		if e != api.OK || !limited || x.Cmp(whole(1)) < 0 {
			t.Fatalf("%s, %v, error %d", x.Text(), limited, e)
		}
		checkFactor(t, b, v, x, true)
		checkFactor(t, b, v, x.Times(part(1000001, 1000000)), false)
		checkPost(t, b, v.Loads, api.MaxSpeed)
	}
	checkRoute(t, n, v, calm(), 0, 19, "0 1 2 3 4 5 6 7 8 9 10 11 12 13 14 15 16 17 18: 19000000, reached ")
	n.Bridges[10].Members[api.MaxMembers-1].High = whole(100)
	checkRoute(t, n, v, calm(), 0, 19, ": 0, reached 11111110000000000000")
}

// TestR3Empty checks that lists that are empty mean the same as none.
func TestR3Empty(t *testing.T) {
	for _, b := range []permit.Bridge{{Impact: impacts("0:1")}, {Members: []permit.Member{}, Impact: impacts("0:1")}} {
		checkBears(t, b, slow(), -1)
		checkRate(t, b, slow(), "")
		checkPost(t, b, loads(truck), api.MaxSpeed)
		checkBears(t, b, permit.Transport{Loads: loads("0+0")}, -1)
	}
	for _, n := range []permit.Net{{Places: 2}, {Places: 2, Bridges: []permit.Bridge{}, Roads: []permit.Road{}}} {
		checkUsable(t, n, slow(), calm(), "")
		checkRoute(t, n, slow(), calm(), 1, 1, ": 0, reached ")
		checkRoute(t, n, slow(), calm(), 0, 1, ": 0, reached 10")
		for _, roads := range [][]int{nil, {}} {
			if at, e := permit.Keeps(n, slow(), calm(), 0, 0, roads); at != 0 || e != api.OK {
				t.Errorf("%d, error %d", at, e)
			}
		}
	}
	n := permit.Net{Places: 2, Roads: []permit.Road{{B: 1, Bridges: []int{}}, {B: 1}}}
	checkUsable(t, n, slow(), calm(), "11")
}

// TestR4ArgumentsStay checks that no function changes its arguments, and R10:
// that the same is told again.
func TestR4ArgumentsStay(t *testing.T) {
	b := bridge("0:1 30:5/4 50:1/2", "0@0 5@1..9/10 10@0 | 3..2 | 0..17", "0@0 5@1..-1 10@0 | 0 | -20..20")
	n := net(4, "0 1 5 over 0 2 0", "3 2 4", "2 1 4 over 1", "0 2 4", "2 1 4")
	v, roads := transport("10..9+4 0..10+0", 0, 50), ints("3 4 2")
	all := func() string { return bridgeText(b) + netText(n) + transportText(v) + intTexts(roads) }
	told := func() string {
		e1, e2 := permit.CheckBridge(b), permit.CheckNet(n)
		member, e3 := permit.Bears(b, v)
		factor, limited, e4 := permit.Rate(b, v)
		speed, e5 := permit.Post(b, v.Loads)
		open, e6 := permit.Open(b, breeze())
		usable, e7 := permit.Usable(n, v, breeze())
		best, e8 := permit.Route(n, v, breeze(), 0, 1)
		none, e9 := permit.Route(net(3, "0 1 2"), v, calm(), 1, 2)
		at, e10 := permit.Keeps(n, v, breeze(), 0, 1, roads)
		numbers := []int{member, speed, at}
		for _, e := range []api.Errno{e1, e2, e3, e4, e5, e6, e7, e8, e9, e10} {
			numbers = append(numbers, int(e))
		}
		return strings.Join([]string{factor.Text(), strconv.FormatBool(limited), strconv.FormatBool(open), boolText(usable), permitText(best), permitText(none), intTexts(numbers)}, "; ")
	}
	before, first := all(), told()
	if want := "14/15; true; true; 01011; 3 4: 8, reached ; : 0, reached 110; 0 29 2 0 0 0 0 0 0 0 0 81 9"; first != want {
		t.Errorf("%s\nnot\n%s", first, want)
	}
	for range 5 {
		if again := told(); again != first {
			t.Errorf("%s\nthen\n%s", first, again)
		}
	}
	if after := all(); after != before {
		t.Errorf("%s\nbecame\n%s", before, after)
	}
}

// TestR4ResultsAreNew overwrites results: nothing else changes with them.
func TestR4ResultsAreNew(t *testing.T) {
	n := net(4, "0 1 5", "1 2 5", "2 0 1 over 1")
	before := netText(n)
	for range 2 {
		usable, _ := permit.Usable(n, slow(), calm())
		best, _ := permit.Route(n, slow(), calm(), 0, 2)
		none, _ := permit.Route(n, slow(), calm(), 0, 3)
		if boolText(usable) != "110" || permitText(best) != "0 1: 10, reached " || permitText(none) != ": 0, reached 1110" {
			t.Error(usable, best, none)
		}
		for _, list := range [][]bool{usable[:cap(usable)], none.Reached[:cap(none.Reached)]} {
			for i := range list {
				list[i] = !list[i]
			}
		}
		best.Roads = best.Roads[:cap(best.Roads)]
		copy(best.Roads, slices.Repeat([]int{77}, len(best.Roads)))
		if netText(n) != before {
			t.Errorf("%s\nbecame\n%s", before, netText(n))
		}
	}
}
