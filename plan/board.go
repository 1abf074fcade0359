package plan

import (
	"slices"

	"voussoir/api"
	"voussoir/exact"
)

// outcome is what a choice comes to for its bridge.
type outcome struct {
	choice api.Choice
	cost   exact.Q
	risks
}

// risks is a risk over all years, and what it is in each year.
type risks struct {
	risk   exact.Q
	yearly []exact.Q
}

// board is a valid stock, and what is asked of it again and again.
type board struct {
	Stock
	outcomes [][]outcome // of each bridge, in the order of its choices
	left     []risks     // the least that the bridges from each number on can have
	funds    []exact.Q   // the sum of the budgets up to each year
}

// boardOf returns the board of a valid stock.
func boardOf(s Stock) board {
	b := board{Stock: s, left: make([]risks, len(s.Bridges)+1)}
	for _, bridge := range b.Bridges {
		b.outcomes = append(b.outcomes, bridge.outcomes())
	}
	b.left[len(b.Bridges)].yearly = make([]exact.Q, b.years())
	for number := range slices.Backward(b.Bridges) {
		b.left[number] = b.left[number+1].plus(least(b.outcomes[number]))
	}
	b.funds = sums(b.Budgets)
	return b
}

// outcomes returns what the choices for a bridge come to, in their order.
func (b Bridge) outcomes() []outcome {
	list := []outcome{{choice: api.Choice{Option: -1}, risks: risksOf(b.Risks)}}
	for number, option := range b.Options {
		for year := range len(b.Risks) {
			yearly := slices.Clone(b.Risks)
			for later := year; later < len(yearly); later++ {
				yearly[later] = yearly[later].Times(option.Factor)
			}
			choice := api.Choice{Option: number, Year: year}
			list = append(list, outcome{choice, option.Cost, risksOf(yearly)})
		}
	}
	return list
}

// risksOf returns the risks with these ones in the years, of which there is one.
func risksOf(yearly []exact.Q) risks { return risks{sums(yearly)[len(yearly)-1], yearly} }

// plus returns the sums of two risks.
func (r risks) plus(other risks) risks {
	yearly := slices.Clone(r.yearly)
	for year := range yearly {
		yearly[year] = yearly[year].Plus(other.yearly[year])
	}
	return risks{r.risk.Plus(other.risk), yearly}
}

// least returns the least risk of all years, and of each year, whichever choice
// gives it.
func least(outcomes []outcome) risks {
	low := risks{outcomes[0].risk, slices.Clone(outcomes[0].yearly)}
	for _, o := range outcomes {
		low.risk = smaller(low.risk, o.risk)
		for year := range low.yearly {
			low.yearly[year] = smaller(low.yearly[year], o.yearly[year])
		}
	}
	return low
}

// smaller returns the smaller one of two numbers.
func smaller(x, y exact.Q) exact.Q { return slices.MinFunc([]exact.Q{x, y}, exact.Q.Cmp) }

// sums returns the sum of the numbers up to each one.
func sums(numbers []exact.Q) []exact.Q {
	list := slices.Clone(numbers)
	for i := 1; i < len(list); i++ {
		list[i] = list[i-1].Plus(list[i])
	}
	return list
}
