package weigh_test

import (
	"math/rand"
	"slices"
	"testing"

	"voussoir/api"
	"voussoir/exact"
	"voussoir/weigh"
)

// TestP1Great tries as many patterns, axles and readings as there may be, with
// different fractions everywhere.
func TestP1Great(t *testing.T) {
	r := rand.New(rand.NewSource(1))
	c := scene{s: weigh.Site{Line: someLine(r, api.MaxPoints)}, w: someLaw(r)}
	p := somePattern(r, api.MaxTrain)
	c.s.Readings = someReadings(r, c.s.Line, p, someLoads(r, p), api.MaxStrains)
	for range api.MaxPatterns - 1 {
		c.l = append(c.l, somePattern(r, api.MaxTrain))
	}
	c.l = append(c.l, p)
	for c.vehicle = range api.MaxTrain {
		accused, e := weigh.Accused(c.s, c.l, c.w, c.vehicle)
		if e != api.OK {
			t.Fatalf("error %d: %s", e, c.text())
		}
		if accused {
			proof, e := weigh.Prove(c.s, c.l, c.w, c.vehicle)
			if believes, _ := weigh.Believes(c.s, c.l, c.w, c.vehicle, proof); e != api.OK || !believes {
				t.Fatalf("error %d, %v: %s", e, believes, c.text())
			}
			continue
		}
		i, loads, e := weigh.Defend(c.s, c.l, c.w, c.vehicle)
		if e != api.OK || !agreeing(c.s, c.l[i], rats(loads)) || !lawful(c.l[i], rats(loads), c.w, c.vehicle) {
			t.Fatalf("error %d, pattern %d: %s", e, i, c.text())
		}
	}
}

// TestR4ArgumentsStay checks that no function changes its arguments.
func TestR4ArgumentsStay(t *testing.T) {
	for _, w := range []string{strict, mild} {
		c := scene{site(tent, strains), patterns(pair, "2; 4; 0..9", pair), law(w), 0}
		proof, _ := weigh.Prove(c.s, c.l, c.w, c.vehicle)
		before := c.text() + answerTexts(proof)
		weigh.CheckSite(c.s)
		weigh.CheckPattern(c.l[0])
		weigh.Rows(c.s, c.l[0])
		weigh.Agree(c.s, c.l)
		weigh.Weigh(c.s, c.l[0])
		weigh.Accused(c.s, c.l, c.w, c.vehicle)
		weigh.Prove(c.s, c.l, c.w, c.vehicle)
		weigh.Believes(c.s, c.l, c.w, c.vehicle, proof)
		weigh.Defend(c.s, c.l, c.w, c.vehicle)
		if after := c.text() + answerTexts(proof); after != before {
			t.Errorf("%s\nbecame\n%s", before, after)
		}
	}
}

// spoil overwrites numbers, also those that there is room for behind them.
func spoil(list []exact.Q) {
	list = list[:cap(list)]
	for i := range list {
		list[i] = num("77")
	}
}

// TestR4ResultsAreNew overwrites results: nothing else changes with them.
func TestR4ResultsAreNew(t *testing.T) {
	c := example()
	before := c.text()
	rows, _ := weigh.Rows(c.s, c.l[0])
	want := rowTexts(rows)
	for i := range rows {
		spoil(rows[i].Coefs)
		if got := rowTexts(rows); !slices.Equal(got[i+1:], want[i+1:]) {
			t.Errorf("row %d: %q", i, got)
		}
	}
	c.l = slices.Repeat(c.l, 3)
	proof, _ := weigh.Prove(c.s, c.l, c.w, c.vehicle)
	for i := range proof {
		spoil(proof[i].Weights)
		if !c.from(i + 1).refutesAll(proof[i+1:]) {
			t.Errorf("answer %d: %s", i, answerTexts(proof))
		}
	}
	w, _ := weigh.Weigh(c.s, c.l[0])
	vehicles := spanTexts(w.Vehicles)
	for i := range w.Axles[:cap(w.Axles)] {
		w.Axles[:cap(w.Axles)][i] = exact.Span{}
	}
	if spanTexts(w.Vehicles) != vehicles {
		t.Errorf("%s became %s", vehicles, spanTexts(w.Vehicles))
	}
	mildly := scene{c.s, c.l, law(mild), 0}
	_, loads, _ := weigh.Defend(mildly.s, mildly.l, mildly.w, 0)
	spoil(loads)
	c.l = c.l[:1]
	if c.text() != before {
		t.Errorf("%s\nbecame\n%s", before, c.text())
	}
}

// from returns a scene without its first patterns.
func (c scene) from(first int) scene {
	c.l = c.l[first:]
	return c
}
