package weigh_test

import (
	"math/rand"
	"slices"
	"testing"

	"voussoir/api"
	"voussoir/exact"
	"voussoir/linear"
	"voussoir/weigh"
)

// TestP5_8 lets trains pass: what is told of them is true.
func TestP5_8(t *testing.T) {
	r := rand.New(rand.NewSource(58))
	both := [2]int{}
	for range 120 {
		c := scene{s: weigh.Site{Line: someLine(r, 2+r.Intn(6))}, w: someLaw(r)}
		for range 1 + r.Intn(4) {
			c.l = append(c.l, somePattern(r, 1+r.Intn(api.MaxTrain)))
		}
		passed := r.Intn(len(c.l))
		p := c.l[passed]
		loads := someLoads(r, p)
		c.s.Readings = someReadings(r, c.s.Line, p, loads, r.Intn(8))
		if agree, e := weigh.Agree(c.s, c.l); e != api.OK || !agree[passed] {
			t.Fatalf("Agree: error %d, %v, pattern %d: %s", e, agree, passed, c.text())
		}
		checkTrue(t, c.s, p, loads)
		for c.vehicle = range api.MaxTrain {
			keeps := lawful(p, rats(loads), c.w, c.vehicle)
			both[boolInt(keeps)]++
			if accused, e := weigh.Accused(c.s, c.l, c.w, c.vehicle); e != api.OK || accused && keeps {
				t.Fatalf("error %d, loads %s, pattern %d: %s", e, texts(loads), passed, c.text())
			}
		}
	}
	if both[0] < 100 || both[1] < 100 {
		t.Error("too few of a kind", both)
	}
}

// checkTrue checks that the loads of a train, and the sums of its vehicles, are
// in the spans of Weigh.
func checkTrue(t *testing.T, s weigh.Site, p weigh.Pattern, loads []exact.Q) {
	t.Helper()
	w, e := weigh.Weigh(s, p)
	if e != api.OK || len(w.Axles) != len(loads) || len(w.Vehicles) != len(p.Vehicles) {
		t.Fatalf("Weigh: error %d, %s: %s %s", e, weightsText(w), siteText(s), patternText(p))
	}
	for i, load := range loads {
		if !w.Axles[i].Has(load) {
			t.Fatalf("axle %d with %s is not in %s", i, load.Text(), weightsText(w))
		}
	}
	for i := range p.Vehicles {
		sum := sumOf(rats(loadsOf(p, loads, i)))
		if !w.Vehicles[i].Has(num(sum.RatString())) {
			t.Fatalf("vehicle %d with %s is not in %s", i, sum.RatString(), weightsText(w))
		}
	}
}

// spoiled returns proofs that differ from a proof in one place.
func spoiled(r *rand.Rand, proof []linear.Answer) [][]linear.Answer {
	var list [][]linear.Answer
	for i, a := range proof {
		for j := range a.Weights {
			other := slices.Clone(proof)
			other[i].Weights = slices.Clone(a.Weights)
			other[i].Weights[j] = a.Weights[j].Plus(someQ(r, -2, 2))
			list = append(list, other)
		}
		k := r.Intn(len(proof))
		other := slices.Clone(proof)
		other[i], other[k] = other[k], other[i]
		list = append(list, other)
	}
	return list
}

// TestP5_9 shows Believes proofs, of the same scene or of another one, and
// changed ones: it accepts just what proves an accusation, and so the vehicle
// keeps the law in no reconstruction.
func TestP5_9(t *testing.T) {
	r := rand.New(rand.NewSource(59))
	var accepted, refused int
	for range 250 {
		c := someScene(r, 3)
		proof, e := weigh.Prove(c.s, c.l, c.w, c.vehicle)
		if e != api.OK {
			continue
		}
		other := c
		other.w.Axle = c.w.Axle.Plus(someQ(r, -2, 3))
		other.w.Gross = slices.Clone(c.w.Gross)
		other.w.Gross[r.Intn(3)] = someQ(r, 0, 30)
		for _, shown := range append(spoiled(r, proof), proof) {
			for _, c := range []scene{c, other} {
				believes, e := weigh.Believes(c.s, c.l, c.w, c.vehicle, shown)
				if e != api.OK || believes != c.refutesAll(shown) {
					t.Fatalf("error %d, %v: %s\n%s", e, believes, c.text(), answerTexts(shown))
				}
				if !believes {
					refused++
					continue
				}
				accepted++
				if c.defends() >= 0 {
					t.Fatalf("believed: %s\n%s", c.text(), answerTexts(shown))
				}
			}
		}
	}
	if accepted < 100 || refused < 100 {
		t.Error("too few of a kind", accepted, refused)
	}
}

// narrowed returns a site with readings more, or with narrower ones.
func narrowed(r *rand.Rand, s weigh.Site) weigh.Site {
	s.Readings = slices.Clone(s.Readings)
	for i, x := range s.Readings {
		if r.Intn(2) == 0 {
			part := x.High.Minus(x.Low).Times(part(r.Intn(5), 4))
			s.Readings[i].Low = x.Low.Plus(part)
		} else if r.Intn(2) == 0 {
			s.Readings[i].High = x.Low
		}
	}
	for range r.Intn(3) {
		low := someQ(r, -2, 20)
		s.Readings = append(s.Readings, weigh.Reading{At: someQ(r, -5, 20), Low: low, High: low.Plus(someQ(r, 0, 30))})
	}
	return s
}

func TestP5_10Readings(t *testing.T) {
	r := rand.New(rand.NewSource(510))
	var excluded, narrower, guilty int
	for range 500 {
		c := someScene(r, 4)
		n := narrowed(r, c.s)
		before, _ := weigh.Agree(c.s, c.l)
		after, e := weigh.Agree(n, c.l)
		if e != api.OK {
			t.Fatal(e)
		}
		for i, p := range c.l {
			if after[i] && !before[i] {
				t.Fatalf("pattern %d agrees with more: %s\n%s", i, siteText(n), c.text())
			}
			excluded += boolInt(before[i] && !after[i])
			if !after[i] {
				continue
			}
			wide, _ := weigh.Weigh(c.s, p)
			narrow, e := weigh.Weigh(n, p)
			if e != api.OK || !areIn(narrow.Axles, wide.Axles) || !areIn(narrow.Vehicles, wide.Vehicles) {
				t.Fatalf("error %d, %s became %s: %s\n%s", e, weightsText(wide), weightsText(narrow), siteText(n), c.text())
			}
			narrower += boolInt(weightsText(wide) != weightsText(narrow))
		}
		was, _ := weigh.Accused(c.s, c.l, c.w, c.vehicle)
		is, e := weigh.Accused(n, c.l, c.w, c.vehicle)
		if was && !is && e != api.ErrNoTrain {
			t.Fatalf("error %d, not accused any more: %s\n%s", e, siteText(n), c.text())
		}
		guilty += boolInt(was && is)
	}
	if excluded < 20 || narrower < 20 || guilty < 10 {
		t.Error("too few of a kind", excluded, narrower, guilty)
	}
}

// areIn reports whether each span is in another one.
func areIn(list, others []exact.Span) bool {
	return slices.EqualFunc(list, others, func(s, t exact.Span) bool { return t.Has(s.Low) && t.Has(s.High) })
}

func TestP5_10Patterns(t *testing.T) {
	r := rand.New(rand.NewSource(5101))
	var guilty, freed int
	for range 400 {
		c := someScene(r, 3)
		was, e := weigh.Accused(c.s, c.l, c.w, c.vehicle)
		if e == api.ErrNoTrain {
			continue
		}
		more := slices.Insert(slices.Clone(c.l), r.Intn(len(c.l)+1), somePattern(r, 1+r.Intn(3)))
		is, e := weigh.Accused(c.s, more, c.w, c.vehicle)
		if e != api.OK || is && !was {
			t.Fatalf("error %d, %v: %s\nwith %d patterns", e, is, c.text(), len(more))
		}
		guilty += boolInt(was && is)
		freed += boolInt(was && !is)
	}
	if guilty < 10 || freed < 5 {
		t.Error("too few of a kind", guilty, freed)
	}
}
