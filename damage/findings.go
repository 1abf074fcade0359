package damage

import (
	"slices"

	"voussoir/api"
	"voussoir/exact"
	"voussoir/linear"
)

// Findings returns what is proved of each bar.
func Findings(w Watch, limit exact.Q) ([]api.Finding, api.Errno) {
	factors, e := Factors(w)
	if e != api.OK {
		return nil, e
	}
	var findings []api.Finding
	for _, factor := range factors {
		findings = append(findings, finding(factor, limit))
	}
	return findings, api.OK
}

// finding returns what is proved of a bar whose factor is in a span.
func finding(factor exact.Span, limit exact.Q) api.Finding {
	switch {
	case factor.High.Cmp(limit) <= 0:
		return api.Sound
	case factor.Low.Cmp(limit) > 0:
		return api.Damaged
	}
	return api.Unsure
}

// Exclude returns weights that exclude a factor above a limit.
//
// The weights of the greatest factor are such ones if any are: no weights can
// prove less.
func Exclude(w Watch, bar int, limit exact.Q) ([]exact.Q, api.Errno) {
	rows, e := w.rowsAbout(bar)
	if e != api.OK {
		return nil, e
	}
	greatest, _ := linear.Solve(linear.Program{Goal: w.alone(bar), Rows: rows})
	switch {
	case greatest.Outcome != api.Solved:
		return nil, api.ErrDisagree
	case greatest.Value.Cmp(limit) > 0:
		return nil, api.ErrNone
	}
	return greatest.Weights, api.OK
}

// Excludes reports whether weights exclude a factor above a limit.
func Excludes(w Watch, bar int, limit exact.Q, weights []exact.Q) (bool, api.Errno) {
	rows, e := w.rowsAbout(bar)
	if e != api.OK {
		return false, e
	}
	if len(weights) != len(rows) {
		return false, api.ErrArg
	}
	if slices.ContainsFunc(weights, func(x exact.Q) bool { return x.Sign() < 0 }) {
		return false, api.OK
	}
	equal := func(x, y exact.Q) bool { return x.Cmp(y) == 0 }
	sum := w.weighted(rows, weights)
	return slices.EqualFunc(sum.Coefs, w.alone(bar), equal) && sum.Most.Cmp(limit) <= 0, api.OK
}

// rowsAbout returns the rows, if there is such a bar.
func (w Watch) rowsAbout(bar int) ([]linear.Row, api.Errno) {
	rows, e := Rows(w)
	if e != api.OK {
		return nil, e
	}
	if !isFrom(0, bar, len(w.Worst)-1) {
		return nil, api.ErrRange
	}
	return rows, api.OK
}

// weighted returns the sum of each weight times its row.
func (w Watch) weighted(rows []linear.Row, weights []exact.Q) linear.Row {
	sum := linear.Row{Coefs: make([]exact.Q, w.unknowns())}
	for i, r := range rows {
		sum.Most = sum.Most.Plus(weights[i].Times(r.Most))
		for unknown, c := range r.Coefs {
			sum.Coefs[unknown] = sum.Coefs[unknown].Plus(weights[i].Times(c))
		}
	}
	return sum
}
