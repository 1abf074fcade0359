package plan

import (
	"cmp"
	"slices"

	"voussoir/api"
	"voussoir/exact"
)

// beginning is choices for the first bridges, and what they come to.
type beginning struct {
	choices []api.Choice
	spent   []exact.Q // in each year
	risks             // of these bridges
	bound   exact.Q
}

// start returns the empty beginning.
func (b board) start() *beginning {
	none := make([]exact.Q, b.years())
	return &beginning{spent: slices.Clone(none), risks: risks{yearly: none}, bound: b.left[0].risk}
}

// with returns a beginning with a choice for the next bridge, given by what it
// comes to.
func (b board) with(p *beginning, o outcome) *beginning {
	next := &beginning{append(slices.Clone(p.choices), o.choice), slices.Clone(p.spent), p.plus(o.risks), exact.Q{}}
	next.spent[o.choice.Year] = next.spent[o.choice.Year].Plus(o.cost)
	next.bound = next.risk.Plus(b.left[len(next.choices)].risk)
	return next
}

// following returns what the choices for the next bridge come to, of a beginning
// that does not have all bridges.
func (b board) following(p *beginning) []outcome { return b.outcomes[len(p.choices)] }

// isPlan reports whether a beginning has all bridges.
func (b board) isPlan(p *beginning) bool { return len(p.choices) == len(b.Bridges) }

// planned returns a plan as the beginning that has all bridges, if it is one.
func (b board) planned(plan []api.Choice) (*beginning, bool) {
	if len(plan) != len(b.Bridges) {
		return nil, false
	}
	p := b.start()
	for number, choice := range plan {
		isIt := func(o outcome) bool { return o.choice == choice }
		at := slices.IndexFunc(b.outcomes[number], isIt)
		if at < 0 {
			return nil, false
		}
		p = b.with(p, b.outcomes[number][at])
	}
	return p, true
}

// allows returns OK, or the error of the first condition that makes a beginning a
// broken one, or a plan one that is not allowed.
func (b board) allows(p *beginning) api.Errno {
	if !b.canPay(p) {
		return api.ErrBudget
	}
	if b.isRisky(p) {
		return api.ErrCap
	}
	if b.collides(p) {
		return api.ErrApart
	}
	return api.OK
}

// canPay reports whether there is as much as a beginning spends, up to each year.
func (b board) canPay(p *beginning) bool {
	for year, spent := range sums(p.spent) {
		if spent.Cmp(b.funds[year]) > 0 {
			return false
		}
	}
	return true
}

// isRisky reports whether in some year the risk is more than the cap, however
// small the risks of the bridges that are left are made.
func (b board) isRisky(p *beginning) bool {
	left := b.left[len(p.choices)]
	for year, most := range b.Caps {
		if p.yearly[year].Plus(left.yearly[year]).Cmp(most) > 0 {
			return true
		}
	}
	return false
}

// collides reports whether two bridges that must be apart get an option in the
// same year.
func (b board) collides(p *beginning) bool {
	isIn := func(number int) bool { return number < len(p.choices) && p.choices[number].Option >= 0 }
	isWrong := func(pair [2]int) bool {
		return isIn(pair[0]) && isIn(pair[1]) && p.choices[pair[0]].Year == p.choices[pair[1]].Year
	}
	return slices.ContainsFunc(b.Apart, isWrong)
}

// compare compares beginnings by their bounds, then by their choices.
func compare(p, q *beginning) int {
	return cmp.Or(p.bound.Cmp(q.bound), slices.CompareFunc(p.choices, q.choices, inOrder))
}

// inOrder compares two choices.
func inOrder(a, b api.Choice) int {
	return cmp.Or(cmp.Compare(a.Option, b.Option), cmp.Compare(a.Year, b.Year))
}
