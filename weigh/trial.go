package weigh

import (
	"slices"

	"voussoir/api"
	"voussoir/exact"
	"voussoir/linear"
)

// Law is the greatest load of an axle, and the greatest sums of vehicles by their axles.
type Law struct {
	Axle  exact.Q
	Gross []exact.Q
}

// trial is the question whether a vehicle of the train that passed a site is
// too heavy.
type trial struct {
	Site
	patterns []Pattern
	law      Law
	vehicle  int
}

// Accused reports whether a vehicle is too heavy in every reconstruction.
func Accused(s Site, l []Pattern, w Law, vehicle int) (bool, api.Errno) {
	t, e := open(s, l, w, vehicle)
	if e != api.OK {
		return false, e
	}
	_, accused, e := t.hold()
	return accused, e
}

// Prove proves an accusation.
func Prove(s Site, l []Pattern, w Law, vehicle int) ([]linear.Answer, api.Errno) {
	t, e := open(s, l, w, vehicle)
	if e != api.OK {
		return nil, e
	}
	answers, accused, e := t.hold()
	if e != api.OK {
		return nil, e
	}
	if !accused {
		return nil, api.ErrInnocent
	}
	return answers, api.OK
}

// Believes checks a proof.
func Believes(s Site, l []Pattern, w Law, vehicle int, proof []linear.Answer) (bool, api.Errno) {
	t, e := open(s, l, w, vehicle)
	if e != api.OK {
		return false, e
	}
	if len(proof) != len(l) {
		return false, api.OK
	}
	for i, p := range l {
		proved, _ := linear.Proves(t.caseOf(p), proof[i])
		if proof[i].Outcome != api.Empty || !proved {
			return false, api.OK
		}
	}
	return true, api.OK
}

// Defend returns a reconstruction in which a vehicle keeps the law.
func Defend(s Site, l []Pattern, w Law, vehicle int) (pattern int, loads []exact.Q, e api.Errno) {
	t, e := open(s, l, w, vehicle)
	if e != api.OK {
		return 0, nil, e
	}
	answers, accused, e := t.hold()
	if e != api.OK {
		return 0, nil, e
	}
	if accused {
		return 0, nil, api.ErrGuilty
	}
	last := len(answers) - 1
	return last, answers[last].Point, api.OK
}

// open returns a trial, if all that it is about is valid.
func open(s Site, l []Pattern, w Law, vehicle int) (trial, api.Errno) {
	if e := checkAll(s, l); e != api.OK {
		return trial{}, e
	}
	if len(w.Gross) != api.MaxTrain {
		return trial{}, api.ErrArg
	}
	if vehicle < 0 || vehicle >= api.MaxTrain {
		return trial{}, api.ErrRange
	}
	return trial{s, l, w, vehicle}, api.OK
}

// hold returns how the cases of the patterns end, up to the first one that some
// loads keep: with these the vehicle keeps the law. If there are none, the
// vehicle is accused, provided that there is a reconstruction at all.
func (t trial) hold() (answers []linear.Answer, accused bool, e api.Errno) {
	for _, p := range t.patterns {
		a := some(t.caseOf(p))
		answers = append(answers, a)
		if a.Outcome != api.Empty {
			return answers, false, api.OK
		}
	}
	if !slices.ContainsFunc(t.patterns, t.agrees) {
		return nil, false, api.ErrNoTrain
	}
	return answers, true, api.OK
}

// caseOf returns the program of a pattern: loads keep its rows just if they
// agree and the vehicle keeps the law.
func (t trial) caseOf(p Pattern) linear.Program {
	rows := t.rows(p)
	if t.vehicle < len(p.Vehicles) {
		own := p.vehicles()[t.vehicle]
		for i := range own.count() {
			rows = append(rows, linear.Row{Coefs: axle(own[0] + i).sum(p), Most: t.law.Axle})
		}
		rows = append(rows, linear.Row{Coefs: own.sum(p), Most: t.law.Gross[own.count()-1]})
	}
	return program(p, rows)
}
