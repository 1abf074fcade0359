package weigh_test

import (
	"math/rand"
	"slices"
	"testing"

	"voussoir/api"
	"voussoir/exact"
	"voussoir/linear"
	"voussoir/weigh"
)

// triers returns the functions about a scene: each returns its error, and
// whether every other result is zero.
func triers(proof []linear.Answer) map[string]func(c scene) (bool, api.Errno) {
	return map[string]func(c scene) (bool, api.Errno){
		"Accused": func(c scene) (bool, api.Errno) {
			accused, e := weigh.Accused(c.s, c.l, c.w, c.vehicle)
			return !accused, e
		},
		"Prove": func(c scene) (bool, api.Errno) {
			answers, e := weigh.Prove(c.s, c.l, c.w, c.vehicle)
			return len(answers) == 0, e
		},
		"Believes": func(c scene) (bool, api.Errno) {
			believes, e := weigh.Believes(c.s, c.l, c.w, c.vehicle, proof)
			return !believes, e
		},
		"Defend": func(c scene) (bool, api.Errno) {
			pattern, loads, e := weigh.Defend(c.s, c.l, c.w, c.vehicle)
			return pattern == 0 && len(loads) == 0, e
		},
	}
}

// wrongLaws returns laws that are not valid.
func wrongLaws() []weigh.Law {
	var list []weigh.Law
	for _, n := range []int{0, 1, 2, api.MaxTrain - 1, api.MaxTrain + 1, 20 * api.MaxTrain} {
		list = append(list, weigh.Law{Axle: num("20"), Gross: slices.Repeat(nums("18"), n)})
	}
	return list
}

// TestP5_5Errors checks what all functions about a law have in common: the order
// of their errors, and that nothing else is told with one.
func TestP5_5Errors(t *testing.T) {
	good := example()
	proof, _ := weigh.Prove(good.s, good.l, good.w, 0)
	numbers := []int{-1, api.MaxTrain, api.MaxTrain + 1, -1 << 63, 1<<63 - 1, 1 << 32, -1 << 32}
	for name, call := range triers(proof) {
		for _, vehicle := range append([]int{0}, numbers...) {
			for _, w := range append(wrongLaws(), good.w) {
				refuses(t, true, func(s weigh.Site, l []weigh.Pattern) (bool, api.Errno) { return call(scene{s, l, w, vehicle}) })
			}
		}
		for i, w := range wrongLaws() {
			for _, vehicle := range append([]int{0}, numbers...) {
				for _, l := range [][]weigh.Pattern{good.l, nil} {
					if zero, e := call(scene{good.s, l, w, vehicle}); e != api.ErrArg || !zero {
						t.Errorf("%s, wrong law %d, vehicle %d: error %d, %v", name, i, vehicle, e, zero)
					}
				}
			}
		}
		for _, vehicle := range numbers {
			for _, l := range [][]weigh.Pattern{good.l, nil} {
				if zero, e := call(scene{good.s, l, good.w, vehicle}); e != api.ErrRange || !zero {
					t.Errorf("%s, vehicle %d: error %d, %v", name, vehicle, e, zero)
				}
			}
		}
	}
}

// trials are scenes: what they are about, and the pattern that Defend returns,
// or -1 for an accusation, or -2 if there is no train.
var trials = []struct {
	readings string
	patterns []string
	law      string
	vehicle  int
	want     int
}{
	{strains, []string{pair}, strict, 0, -1},
	{strains, []string{pair}, mild, 0, 0},
	{strains, []string{pair}, "20; 15 55/3 18 18 18 18", 0, 0}, // the law allows the number itself
	{strains, []string{pair}, "20; 15 18333/1000 18 18 18 18", 0, -1},
	{strains, []string{pair, singles}, strict, 0, 1},
	{strains, []string{singles, pair}, strict, 0, 0},
	{strains, []string{pair, singles}, "20; 8 18 18 18 18 18", 0, -1},
	{strains, []string{pair, singles}, "8; 15 30 30 30 30 30", 0, -1}, // both axles are above 215/24
	{strains, []string{pair, singles}, "215/24; 15 55/3 30 30 30 30", 0, 1},
	{strains, []string{singles}, "4479/500; 15 18 18 18 18 18", 0, -1},
	{strains, []string{pair}, "10; 15 20 30 30 30 30", 0, 0},
	{strains, []string{pair, pair, pair}, strict, 0, -1},
	{strains, []string{pair, pair, singles, singles}, strict, 0, 2},
	{strains, []string{pair}, strict, 1, 0}, // there is no such vehicle
	{strains, []string{pair}, strict, 5, 0},
	{strains, []string{singles}, "20; 8 8 8 8 8 8", 1, -1},
	{strains, []string{singles}, "20; 9 8 8 8 8 8", 1, 0},
	{strains, []string{singles}, "20; 8 8 8 8 8 8", 2, 0},
	{strains, []string{singles, pair}, "20; 8 8 8 8 8 8", 1, 1},
	{strains, []string{"2; 4; 0..9", pair, "1; ; 0..20"}, strict, 0, -1}, // patterns that are excluded do not defend
	{strains, []string{"2; 4; 0..9", singles}, strict, 0, 1},
	{strains, []string{"2; 4; 0..9"}, strict, 0, -2},
	{strains, []string{"2; 4; 0..9", "1; ; 0..20"}, strict, 5, -2},
	{strains, nil, strict, 0, -2},
	{"", nil, mild, 5, -2},
	{"", []string{pair}, strict, 0, 0},
	{"", []string{"2; 4; 0..20"}, "-1; 0 0 0 0 0 0", 0, -1}, // a law that nothing keeps
	{"", []string{"2; 4; 0..20"}, "0; 0 0 0 0 0 0", 0, 0},
	{"", []string{"2; 4; 0..20"}, "0; 0 -1/9 0 0 0 0", 0, -1},
	{"", []string{"2; 4; 0..20"}, "0; -1/9 0 -1/9 -1/9 -1/9 -1/9", 0, 0}, // of two axles only the second number matters
	{"", []string{"1 3 2; 1 1 1 1 1; 5..20"}, "5; 5 5 15 5 5 5", 1, 0},
	{"", []string{"1 3 2; 1 1 1 1 1; 5..20"}, "5; 99 99 14 99 99 99", 1, -1},
	{"", []string{"1 3 2; 1 1 1 1 1; 5..20"}, "5; 99 10 14 99 99 99", 2, 0},
	{"", []string{"1 3 2; 1 1 1 1 1; 5..20"}, "5; 99 9 99 99 99 99", 2, -1},
	{"", []string{"1 3 2; 1 1 1 1 1; 5..20"}, "5; 5 9 14 99 99 99", 0, 0},
	{"", []string{"6; 1 1 1 1 1; 5..20"}, "5; 0 0 0 0 0 30", 0, 0},
	{"", []string{"6; 1 1 1 1 1; 5..20"}, "5; 99 99 99 99 99 29", 0, -1},
	{"", []string{"1 1 1 1 1 1; 1 1 1 1 1; 5..20"}, "5; 5 0 0 0 0 0", 5, 0},
	{"", []string{"1 1 1 1 1 1; 1 1 1 1 1; 5..20"}, "5; 4 9 9 9 9 9", 5, -1},
	{"5:12..20 24:0..4", []string{"2; 20; 0..20"}, "12; 99 99 99 99 99 99", 0, 0}, // the axles are 20 apart: each is on the bridge alone
	{"5:12..20 24:2..4", []string{"1 1; 20; 0..20"}, "4; 4 9 9 9 9 9", 0, -1},
	{"5:12..20 24:2..4", []string{"1 1; 20; 0..20"}, "4; 4 9 9 9 9 9", 1, 0},
	{"5:12..20 24:2..4", []string{"1 1; 20; 0..20"}, "2; 2 9 9 9 9 9", 1, -1},
	{"5:12..20 25:2..4", []string{"1 1; 20; 0..20"}, "2; 2 9 9 9 9 9", 1, 0},
}

func TestP5_5Accused(t *testing.T) {
	for i, x := range trials {
		accused, e := weigh.Accused(site(tent, x.readings), patterns(x.patterns...), law(x.law), x.vehicle)
		want := api.OK
		if x.want == -2 {
			want = api.ErrNoTrain
		}
		if e != want || accused != (x.want == -1) {
			t.Errorf("trial %d: error %d, %v", i, e, accused)
		}
	}
}

func TestP5_6Prove(t *testing.T) {
	for i, x := range trials {
		c := scene{site(tent, x.readings), patterns(x.patterns...), law(x.law), x.vehicle}
		proof, e := weigh.Prove(c.s, c.l, c.w, c.vehicle)
		switch x.want {
		case -1:
			if e != api.OK || !c.refutesAll(proof) {
				t.Errorf("trial %d: error %d\n%s", i, e, answerTexts(proof))
			}
			if believes, e := weigh.Believes(c.s, c.l, c.w, c.vehicle, proof); e != api.OK || !believes {
				t.Errorf("trial %d: error %d, not believed", i, e)
			}
		case -2:
			if e != api.ErrNoTrain || len(proof) != 0 {
				t.Errorf("trial %d: error %d\n%s", i, e, answerTexts(proof))
			}
		default:
			if e != api.ErrInnocent || len(proof) != 0 {
				t.Errorf("trial %d: error %d\n%s", i, e, answerTexts(proof))
			}
		}
	}
}

// empty returns an answer that there is nothing, with weights.
func empty(weights string) linear.Answer {
	return linear.Answer{Outcome: api.Empty, Weights: nums(weights)}
}

// TestP5_6BelievesByHand checks proofs that were made by hand: this is also what
// says in which order the rows of a case are.
func TestP5_6BelievesByHand(t *testing.T) {
	lights := pattern("1 2; 4 1; 5..20")
	for i, x := range []struct {
		c     scene
		proof []linear.Answer
		want  bool
	}{
		{example(), []linear.Answer{empty("0 0 0 0 0 5/6 0 5/6 0 0 1")}, true}, // 5/6 of both sums is that of the loads
		{example(), []linear.Answer{empty("0 0 0 0 0 5 0 5 0 0 6")}, true},
		{example(), []linear.Answer{empty("1 1 0 0 0 5/6 0 5/6 0 0 1")}, false},   // nothing is proved: it is 20 - 1/3
		{example(), []linear.Answer{empty("0 0 0 0 0 5/6 0 5/6 1 1 0")}, false},   // those of single axles
		{example(), []linear.Answer{empty("0 0 0 0 5/6 0 5/6 0 0 0 1")}, false},   // the rows of High
		{example(), []linear.Answer{empty("0 0 0 0 0 5/6 0 5/6 0 0 1 0")}, false}, // a weight too many
		{example(), []linear.Answer{empty("0 0 0 0 0 5/6 0 5/6 0 0")}, false},     // one too few
		{example(), []linear.Answer{empty("0 0 0 0 0 5/6 0 5/6 0 0 -1")}, false},  // a negative one
		{example(), []linear.Answer{empty("0 0 0 0 0 5/6 0 1 0 0 1")}, false},     // the sums are not 0
		{example(), []linear.Answer{empty("0 0 0 0 0 0 0 0 0 0 0")}, false},       // nothing
		{example(), []linear.Answer{{Outcome: api.Empty}}, false},                 // no weights
		{example(), nil, false}, // no answer
		{example(), slices.Repeat([]linear.Answer{empty("0 0 0 0 0 5/6 0 5/6 0 0 1")}, 2), false}, // one too many
		{scene{example().s, nil, law(strict), 0}, nil, true},                                      // there is nothing to prove
		{scene{example().s, nil, law(strict), 0}, []linear.Answer{empty("")}, false},              // there is one answer too many
		{scene{example().s, patterns(pair), law(strict), 1}, []linear.Answer{empty("0 0 0 0 0 5/6 0 5/6 0 0 1")}, false},
		{scene{example().s, patterns(pair), law(mild), 0}, []linear.Answer{empty("0 0 0 0 0 5/6 0 5/6 0 0 1")}, false},
		{scene{example().s, patterns(pair), law("8; 0 99 0 0 0 0"), 0}, []linear.Answer{empty("0 0 0 0 0 5/6 0 5/6 1 1 0")}, true},
		{scene{site(tent, ""), []weigh.Pattern{lights}, law("9; 9 9 9 9 9 9"), 1}, []linear.Answer{empty("0 0 0 1 0 1 0 0 1")}, true},
		{scene{site(tent, ""), []weigh.Pattern{lights}, law("9; 9 9 9 9 9 9"), 0}, []linear.Answer{empty("0 0 0 1 0 1 0 0 1")}, false},
		{scene{site(tent, ""), []weigh.Pattern{lights}, law("9; 9 10 9 9 9 9"), 1}, []linear.Answer{empty("0 0 0 1 0 1 0 0 1")}, false},
		{scene{site(tent, ""), []weigh.Pattern{lights}, law("4; 9 9 9 9 9 9"), 0}, []linear.Answer{empty("0 1 0 0 0 0 1 0")}, true},
		{scene{site(tent, ""), []weigh.Pattern{lights}, law("4; 9 9 9 9 9 9"), 1}, []linear.Answer{empty("0 0 0 1 0 0 1 0 0")}, true},
		{scene{site(tent, ""), []weigh.Pattern{lights}, law("4; 9 9 9 9 9 9"), 1}, []linear.Answer{empty("0 0 0 0 0 1 0 1 0")}, true},
		{scene{site(tent, ""), []weigh.Pattern{lights}, law("4; 9 9 9 9 9 9"), 1}, []linear.Answer{empty("0 0 0 0 0 1 1 0 0")}, false},
		{scene{site(tent, "5:1..2 5:3..4"), patterns("1; ; 0..20"), law(strict), 3}, []linear.Answer{empty("0 0 1 0 0 1")}, true}, // without any reconstruction
	} {
		if got, e := weigh.Believes(x.c.s, x.c.l, x.c.w, x.c.vehicle, x.proof); e != api.OK || got != x.want {
			t.Errorf("proof %d: error %d, %v", i, e, got)
		}
	}
}

// TestP5_6OtherOutcomes checks that answers are not believed that are proved,
// but are not Empty, nor those that are Empty and not proved.
func TestP5_6OtherOutcomes(t *testing.T) {
	good := empty("0 0 0 0 0 5/6 0 5/6 0 0 1")
	c := example()
	for outcome := range 256 {
		a := good
		a.Outcome = api.Outcome(outcome)
		if got, e := weigh.Believes(c.s, c.l, c.w, 0, []linear.Answer{a}); e != api.OK || got != (a.Outcome == api.Empty) {
			t.Errorf("outcome %d: error %d, %v", outcome, e, got)
		}
	}
	for i, change := range []func(a *linear.Answer){
		func(a *linear.Answer) { a.Value = num("1") }, func(a *linear.Answer) { a.Point = nums("9 9") }, func(a *linear.Answer) { a.Ray = nums("1 0") },
	} {
		a := good
		change(&a)
		if got, e := weigh.Believes(c.s, c.l, c.w, 0, []linear.Answer{a}); e != api.OK || got {
			t.Errorf("change %d: error %d, %v", i, e, got)
		}
	}
	solved := linear.Answer{Outcome: api.Solved, Point: nums("55/6 55/6"), Weights: nums("0 0 0 0 0 0 0 0 0 0 0")}
	rows, _ := weigh.Rows(c.s, c.l[0])
	rows = append(rows, linear.Row{Coefs: nums("1 0"), Most: num("20")}, linear.Row{Coefs: nums("0 1"), Most: num("20")}, linear.Row{Coefs: nums("1 1"), Most: num("19")})
	if proved, _ := linear.Proves(linear.Program{Goal: nums("0 0"), Rows: rows}, solved); !proved {
		t.Fatal("the answer is not proved")
	}
	if got, e := weigh.Believes(c.s, c.l, law(mild), 0, []linear.Answer{solved}); e != api.OK || got {
		t.Errorf("solved: error %d, %v", e, got)
	}
}

// TestP5_6BelievesWithoutTrain checks proofs where each pattern is excluded:
// nobody is accused there, but the proof is believed.
func TestP5_6BelievesWithoutTrain(t *testing.T) {
	c := scene{site(tent, strains), patterns("2; 4; 0..9", "1; ; 0..20", "2; 4; 30..40"), law(mild), 1}
	var proof []linear.Answer
	for _, p := range c.l {
		rows, _ := weigh.Rows(c.s, p)
		a, _ := linear.Solve(linear.Program{Goal: make([]exact.Q, len(p.Gaps)+1), Rows: rows})
		proof = append(proof, a)
	}
	if believes, e := weigh.Believes(c.s, c.l, c.w, c.vehicle, proof); e != api.OK || !believes || !c.refutesAll(proof) {
		t.Errorf("error %d, %v\n%s", e, believes, answerTexts(proof))
	}
	if _, e := weigh.Prove(c.s, c.l, c.w, c.vehicle); e != api.ErrNoTrain {
		t.Errorf("Prove: error %d", e)
	}
	for i := range proof {
		fewer := slices.Delete(slices.Clone(proof), i, i+1)
		if believes, e := weigh.Believes(c.s, c.l, c.w, c.vehicle, fewer); e != api.OK || believes {
			t.Errorf("without answer %d: error %d, %v", i, e, believes)
		}
	}
}

// checkDefence checks that Defend returns a pattern and loads of it with which
// the vehicle keeps the law.
func checkDefence(t *testing.T, c scene, want int) {
	t.Helper()
	i, loads, e := weigh.Defend(c.s, c.l, c.w, c.vehicle)
	if e != api.OK || i != want || !agreeing(c.s, c.l[i], rats(loads)) || !lawful(c.l[i], rats(loads), c.w, c.vehicle) {
		t.Fatalf("error %d, pattern %d, not %d, loads %s: %s", e, i, want, texts(loads), c.text())
	}
}

func TestP5_7Defend(t *testing.T) {
	for i, x := range trials {
		c := scene{site(tent, x.readings), patterns(x.patterns...), law(x.law), x.vehicle}
		if x.want >= 0 {
			checkDefence(t, c, x.want)
			continue
		}
		want := api.ErrGuilty
		if x.want == -2 {
			want = api.ErrNoTrain
		}
		if pattern, loads, e := weigh.Defend(c.s, c.l, c.w, c.vehicle); e != want || pattern != 0 || len(loads) != 0 {
			t.Errorf("trial %d: error %d, pattern %d, loads %s", i, e, pattern, texts(loads))
		}
	}
}

// TestP5_7Many compares all that is said of a vehicle with the corners of the
// cases.
func TestP5_7Many(t *testing.T) {
	r := rand.New(rand.NewSource(57))
	count := map[string]int{}
	for range 400 {
		c := someScene(r, 3)
		accused, e := weigh.Accused(c.s, c.l, c.w, c.vehicle)
		proof, proving := weigh.Prove(c.s, c.l, c.w, c.vehicle)
		pattern, loads, defending := weigh.Defend(c.s, c.l, c.w, c.vehicle)
		first := c.defends()
		switch {
		case first >= 0:
			count["innocent"]++
			if first > 0 {
				count["later pattern"]++
			}
			if accused || e != api.OK || proving != api.ErrInnocent || len(proof) != 0 {
				t.Fatalf("innocent: %v, errors %d, %d: %s", accused, e, proving, c.text())
			}
			checkDefence(t, c, first)
		case c.hasTrain():
			count["guilty"]++
			if !accused || e != api.OK || proving != api.OK || !c.refutesAll(proof) || defending != api.ErrGuilty {
				t.Fatalf("guilty: %v, errors %d, %d, %d: %s\n%s", accused, e, proving, defending, c.text(), answerTexts(proof))
			}
		default:
			count["no train"]++
			if accused || e != api.ErrNoTrain || proving != api.ErrNoTrain || defending != api.ErrNoTrain || len(proof) != 0 {
				t.Fatalf("no train: %v, errors %d, %d, %d: %s", accused, e, proving, defending, c.text())
			}
		}
		if first < 0 && (pattern != 0 || len(loads) != 0) {
			t.Fatalf("pattern %d, loads %s: %s", pattern, texts(loads), c.text())
		}
	}
	for _, kind := range []string{"innocent", "later pattern", "guilty", "no train"} {
		if count[kind] < 20 {
			t.Error("too few of a kind", count)
		}
	}
}
