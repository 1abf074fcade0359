package moving_test

import (
	"math/rand"
	"testing"

	"voussoir/api"
	"voussoir/exact"
	"voussoir/moving"
)

func TestP4_5Examples(t *testing.T) {
	hills := "0:1 30:5/4 31:0 100:7/2 300:2"
	for _, c := range []struct {
		table    string
		from, to int
		want     string
	}{
		{"0:1", 0, 0, "1..1"}, {"0:1", 0, 300, "1..1"}, {"0:0", 300, 300, "0..0"},
		{"0:1 30:5/4", 0, 29, "1..1"}, {"0:1 30:5/4", 0, 30, "1..5/4"}, {"0:1 30:5/4", 29, 30, "1..5/4"}, {"0:1 30:5/4", 30, 30, "5/4..5/4"}, {"0:1 30:5/4", 31, 300, "5/4..5/4"},
		{"0:5/4 30:1", 0, 300, "1..5/4"}, {"0:5/4 30:1", 29, 30, "1..5/4"},
		{hills, 0, 300, "0..7/2"}, {hills, 0, 30, "1..5/4"}, {hills, 30, 31, "0..5/4"}, {hills, 31, 99, "0..0"}, {hills, 99, 299, "0..7/2"}, {hills, 100, 299, "7/2..7/2"},
		{hills, 100, 300, "2..7/2"}, {hills, 300, 300, "2..2"}, {hills, 30, 100, "0..7/2"},
	} {
		s, e := moving.Factors(impacts(c.table), c.from, c.to)
		checkSpan(t, c.table, s, e, c.want)
	}
}

func TestP4_5Many(t *testing.T) {
	r := rand.New(rand.NewSource(45))
	for range 200 {
		table := []moving.Impact{{Factor: someQ(r, 0, 9)}}
		for from := 1 + r.Intn(9); from <= api.MaxSpeed && len(table) < api.MaxImpacts; from += 1 + r.Intn(40) {
			table = append(table, moving.Impact{From: from, Factor: someQ(r, 0, 9)})
		}
		from := r.Intn(api.MaxSpeed + 1)
		to := from + r.Intn(api.MaxSpeed+1-from)
		var want ends
		for speed := from; speed <= to; speed++ {
			last := 0
			for i := range table {
				if table[i].From <= speed {
					last = i
				}
			}
			want = want.with(rat(table[last].Factor))
		}
		if s, e := moving.Factors(table, from, to); e != api.OK || !want.are(s) {
			t.Fatalf("%v from %d to %d: %s, error %d, not %s", table, from, to, spanText(s), e, want.text())
		}
	}
}

func TestP4_5Errors(t *testing.T) {
	wrong := [][]moving.Impact{nil, {}, longTable(api.MaxImpacts + 1)}
	for _, s := range []string{
		"1:1", "-1:1", "300:1", "-1:1 0:1", "0:-1", "0:-1/9", "0:1 0:1", "0:1 10:1 10:2", "0:1 10:1 9:1", "0:1 10:1 20:-1 30:1", "0:1 301:1", "0:1 300:1 301:1",
		"0:1 9223372036854775807:1", "0:1 10:1 -9223372036854775808:1", "0:1 -5:1",
	} {
		wrong = append(wrong, impacts(s))
	}
	for i, table := range wrong {
		s, e := moving.Factors(table, 0, 10)
		noSpan(t, "wrong table "+whole(i).Text(), s, e, api.ErrArg)
		s, e = moving.Factors(table, 5, 4) // the table comes first
		noSpan(t, "wrong table and speeds "+whole(i).Text(), s, e, api.ErrArg)
	}
	table := impacts("0:1 30:5/4")
	for _, c := range append(extremeInts(), api.MaxSpeed+1) {
		for _, speeds := range [][2]int{{c, 10}, {10, c}, {c, c}} {
			s, e := moving.Factors(table, speeds[0], speeds[1])
			noSpan(t, "wrong speeds", s, e, api.ErrRange)
		}
	}
	for _, speeds := range [][2]int{{1, 0}, {300, 299}, {301, 300}, {-1, -1}} {
		s, e := moving.Factors(table, speeds[0], speeds[1])
		noSpan(t, "wrong speeds", s, e, api.ErrRange)
	}
	s, e := moving.Factors(longTable(api.MaxImpacts), 0, api.MaxSpeed)
	checkSpan(t, "the longest table", s, e, "0..3")
	s, e = moving.Factors(impacts("0:1 300:2"), 0, api.MaxSpeed)
	checkSpan(t, "the greatest speed", s, e, "1..2")
}

func TestP4_6Examples(t *testing.T) {
	for _, c := range []struct{ lanes, factors, want string }{
		{"0..12 -1..10", "1 9/10", "-1..99/5"},
		{"12..0 10..-1", "1 9/10", "-1..99/5"}, // exchanged ends
		{"", "", "0..0"},
		{"2..3", "1", "0..3"}, {"-3..-2", "2", "-6..0"}, {"5..7", "0", "0..0"}, {"-1..1", "1/2", "-1/2..1/2"},
		{"1..2 3..4", "1 0", "0..4"}, {"1..2 3..4", "1 1/2", "0..4"}, {"1..2 3..4", "1 3/4", "0..9/2"}, {"1..2 3..4", "0 1", "0..6"},
		{"-4..-3 -2..-1", "1 1", "-6..0"}, {"-4..5 -2..9", "1 1/3", "-4..9"},
		{"-1..1 -5..5 -3..3", "1 1 1", "-9..9"}, {"-1..1 -5..5 -3..3", "0 1 0", "-8..8"}, {"-1..1 -5..5 -3..3", "0 0 1", "-9..9"}, {"-1..1 -5..5 -3..3", "1 0 0", "-5..5"},
		{"1..2 1..2 1..2 1..2 1..2 1..2 1..2 1..2", "0 0 0 0 0 0 0 1/8", "0..2"},
		{"-9..1 -2..8 -4..3", "1 1/2 0", "-9..8"}, {"-9..1 -2..8 -4..3", "0 1 0", "-13..11"},
	} {
		s, e := moving.Lanes(spans(c.lanes), nums(c.factors))
		checkSpan(t, c.lanes+" with "+c.factors, s, e, c.want)
	}
}

func TestP4_6Many(t *testing.T) {
	r := rand.New(rand.NewSource(46))
	for range 100 {
		var lanes []exact.Span
		var factors []exact.Q
		for range r.Intn(api.MaxLanes + 1) {
			lanes = append(lanes, exact.Span{Low: someQ(r, -9, 9), High: someQ(r, -9, 9)})
			factors = append(factors, someQ(r, 0, 2))
		}
		want := lanesOf(lanes, factors)
		if s, e := moving.Lanes(lanes, factors); e != api.OK || !want.are(s) {
			t.Fatalf("%v with %v: %s, error %d, not %s", lanes, factors, spanText(s), e, want.text())
		}
	}
}

func TestP4_6Errors(t *testing.T) {
	for _, c := range [][2]string{
		{"1..2", ""}, {"", "1"}, {"1..2", "1 1"}, {"1..2 1..2", "1"}, {"1..2", "-1"}, {"1..2 1..2", "1 -1/9"}, {"1..2 1..2", "-1 1"},
		{"1 1 1 1 1 1 1 1 1", "1 1 1 1 1 1 1 1 1"}, {"1 1 1 1 1 1 1 1 1", "1 1 1 1 1 1 1 1"}, {"1 1 1 1 1 1 1 1", "1 1 1 1 1 1 1 1 1"},
	} {
		s, e := moving.Lanes(spans(c[0]), nums(c[1]))
		noSpan(t, c[0]+" with "+c[1], s, e, api.ErrArg)
	}
}
