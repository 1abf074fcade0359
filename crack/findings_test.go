package crack_test

import (
	"math/rand"
	"slices"
	"testing"

	"voussoir/api"
	"voussoir/crack"
	"voussoir/exact"
)

func TestP7_4Reconcile(t *testing.T) {
	for _, c := range []struct{ expected, findings, want string }{
		{"9..11", "10..12 8..10 13..14", "10..10 by 0 1, doubt"},
		{"9..11", "", "9..11 by "},
		{"9..11", "9..11", "9..11 by 0"},
		{"9..11", "0..100", "9..11 by 0"},
		{"9..11", "10..21/2", "10..21/2 by 0"},
		{"9..11", "11..12", "11..11 by 0"}, {"9..11", "8..9", "9..9 by 0"},
		{"9..11", "8..89/10", "9..11 by , doubt"}, {"9..11", "12..13 0..1 111/10..20", "9..11 by , doubt"},
		{"0..0", "0..0 0..5", "0..0 by 0 1"}, {"0..0", "1/1000..5", "0..0 by , doubt"},
		// More findings are better than greater sizes.
		{"0..20", "18..20 1..3 2..4", "2..3 by 1 2, doubt"}, {"0..20", "1..3 18..20 2..4 19..20 3..5", "3..3 by 0 2 4, doubt"},
		// Of as many findings, the greatest size counts, not the least one, nor the order.
		{"0..20", "1..2 3..4", "3..4 by 1, doubt"}, {"0..20", "3..4 1..2", "3..4 by 0, doubt"}, {"0..20", "0..5 4..9", "4..5 by 0 1"},
		{"0..20", "1..9 2..3 8..10", "8..9 by 0 2, doubt"}, {"0..20", "8..10 2..3 1..9", "8..9 by 0 2, doubt"},
		{"0..20", "5..6 1..9 2..3 4..7", "5..6 by 0 1 3, doubt"},
		{"0..9", "1..2 1..2 8..20 9..30", "9..9 by 2 3, doubt"}, {"0..17/2", "1..2 1..2 8..20 9..30", "1..2 by 0 1, doubt"},
		// The expected span cuts both ends.
		{"2..3", "0..5 1..9", "2..3 by 0 1"}, {"2..3", "0..5/2 9/4..9", "9/4..5/2 by 0 1"}, {"2..3", "3..9 0..2", "3..3 by 0, doubt"},
		{"0..20", "1..2 1..2 1..2", "1..2 by 0 1 2"},
		{"0..20", "1..2 3..4 5..6 7..8 9..10 11..12 0..20 0..20 0..20 0..20 0..20 0..20", "11..12 by 5 6 7 8 9 10 11, doubt"},
		{"1/340282366920938463463374607431768211456..1/2", "0..1/340282366920938463463374607431768211455", "1/340282366920938463463374607431768211456..1/340282366920938463463374607431768211455 by 0"},
	} {
		a, e := crack.Reconcile(span(c.expected), spans(c.findings))
		if e != api.OK || agreementText(a) != c.want {
			t.Errorf("%s, findings %s: %s, error %d, not %s", c.expected, c.findings, agreementText(a), e, c.want)
		}
	}
}

// checkReconciled compares an agreement with what trying all sets finds.
func checkReconciled(t *testing.T, expected exact.Span, findings []exact.Span) crack.Agreement {
	t.Helper()
	a, e := crack.Reconcile(expected, findings)
	used, size := reconcile(expected, findings)
	if e != api.OK || !slices.Equal(a.Used, used) || !size.are(a.Size) || a.Doubt != (len(used) < len(findings)) {
		t.Fatalf("%s, findings %s: %s, error %d, not %s by %v", spanText(expected), spanTexts(findings), agreementText(a), e, size.text(), used)
	}
	return a
}

func TestP7_4Some(t *testing.T) {
	r := rand.New(rand.NewSource(74))
	used := map[int]int{}
	for i := range 600 {
		most := 2 + r.Intn(12)
		expected, findings := someSize(r, most), []exact.Span{}
		for range i % 8 {
			findings = append(findings, someSize(r, most))
		}
		used[len(checkReconciled(t, expected, findings).Used)]++
	}
	for n := range 6 {
		if used[n] < 10 {
			t.Error("too few of a kind", used)
		}
	}
	for range 2 {
		var findings []exact.Span
		for range api.MaxFindings {
			findings = append(findings, someSize(r, 20))
		}
		checkReconciled(t, span("3..18"), findings)
	}
}

func TestP7_4Errors(t *testing.T) {
	refuse := func(expected exact.Span, findings []exact.Span, want api.Errno) {
		t.Helper()
		if a, e := crack.Reconcile(expected, findings); e != want || !isNothing(a) {
			t.Errorf("%s, findings %s: error %d, not %d; %s", spanText(expected), spanTexts(findings), e, want, agreementText(a))
		}
	}
	fine, many := span("1..2"), slices.Repeat(spans("1..2"), api.MaxFindings)
	if a, e := crack.Reconcile(fine, many); e != api.OK || agreementText(a) != "1..2 by 0 1 2 3 4 5 6 7 8 9 10 11" {
		t.Error(agreementText(a), e)
	}
	refuse(fine, append(many, fine), api.ErrLong)
	refuse(fine, slices.Repeat(many, 100), api.ErrLong)
	for _, wrong := range wrongSizes() {
		refuse(wrong, nil, api.ErrArg)
		refuse(wrong, spans("1..2"), api.ErrArg)
		refuse(wrong, append(many, fine), api.ErrArg)
		refuse(fine, []exact.Span{wrong}, api.ErrArg)
		refuse(fine, []exact.Span{fine, fine, wrong}, api.ErrArg)
		refuse(fine, []exact.Span{wrong, fine}, api.ErrArg)
		refuse(fine, append([]exact.Span{wrong}, many...), api.ErrLong)
	}
}
