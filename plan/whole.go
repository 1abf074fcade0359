package plan

import (
	"slices"

	"voussoir/exact"
)

// wholeBoard returns the board of a valid stock in which all costs and risks are
// multiplied so that they are whole: searches add and compare these much faster
// than fractions. It returns also what the risks are multiplied with.
func wholeBoard(s Stock) (board, exact.Q) {
	money, risk := slices.Clone(s.Budgets), slices.Clone(s.Caps)
	var factor []exact.Q
	for _, b := range s.Bridges {
		risk = append(risk, b.Risks...)
		for _, o := range b.Options {
			money, factor = append(money, o.Cost), append(factor, o.Factor)
		}
	}
	unit := common(risk).Times(common(factor))
	return boardOf(s.times(common(money), unit)), unit
}

// times returns the stock with all costs and all risks multiplied. The factors
// stay, and so do the plans that are allowed, and which of them has less risk.
func (s Stock) times(money, risk exact.Q) Stock {
	more := Stock{Budgets: multiples(s.Budgets, money), Caps: multiples(s.Caps, risk), Apart: s.Apart}
	for _, b := range s.Bridges {
		next := Bridge{Risks: multiples(b.Risks, risk), Options: slices.Clone(b.Options)}
		for i, o := range next.Options {
			next.Options[i].Cost = o.Cost.Times(money)
		}
		more.Bridges = append(more.Bridges, next)
	}
	return more
}

// multiples returns numbers multiplied with one.
func multiples(numbers []exact.Q, by exact.Q) []exact.Q {
	list := slices.Clone(numbers)
	for i, x := range list {
		list[i] = x.Times(by)
	}
	return list
}

// common returns the least positive integer that makes numbers whole when they
// are multiplied with it.
func common(numbers []exact.Q) exact.Q {
	all := exact.Int(1)
	for _, x := range numbers {
		_, den := x.Parts()
		missing, _ := ratio(den, all).Parts()
		all = all.Times(missing)
	}
	return all
}

// ratio returns a quotient of numbers, of which the second one is not 0.
func ratio(x, y exact.Q) exact.Q {
	q, _ := x.Over(y)
	return q
}
