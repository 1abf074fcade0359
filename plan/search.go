package plan

import (
	"container/heap"
	"slices"

	"voussoir/api"
)

// frontier is beginnings that are not broken, as a heap: the first one is the
// smallest in the order of compare.
type frontier []*beginning

// Len returns how many beginnings there are.
func (f frontier) Len() int { return len(f) }

// Less reports whether one beginning is before another one.
func (f frontier) Less(i, j int) bool { return compare(f[i], f[j]) < 0 }

// Swap exchanges two beginnings.
func (f frontier) Swap(i, j int) { f[i], f[j] = f[j], f[i] }

// Push adds a beginning at the end.
func (f *frontier) Push(x any) { *f = append(*f, x.(*beginning)) }

// Pop takes the last beginning away.
func (f *frontier) Pop() any {
	last := len(*f) - 1
	p := (*f)[last]
	*f = (*f)[:last]
	return p
}

// explored returns the beginnings that a search leaves: again and again, the
// smallest one gives way to those that have one choice more, until it is a plan,
// or there would be more beginnings than nodes. What is broken is not kept, nor is
// what is greater than a plan that was found: so if the first one is a plan, then
// it is the best one, and if there are none, then no plan is allowed.
func (b board) explored(nodes int) frontier {
	var open frontier
	var found *beginning // the smallest plan so far
	add := func(p *beginning) {
		if b.allows(p) != api.OK || found != nil && compare(found, p) < 0 {
			return
		}
		if b.isPlan(p) {
			found = p
		}
		heap.Push(&open, p)
	}
	add(b.start())
	used := 1
	for len(open) > 0 && !b.isPlan(open[0]) {
		following := b.following(open[0])
		if used += len(following); used > nodes {
			break
		}
		p := heap.Pop(&open).(*beginning)
		for _, o := range following {
			add(b.with(p, o))
		}
	}
	return open
}

// chosen returns the smallest one of the plans to which beginnings lead, if there
// are any.
func (b board) chosen(open frontier) (*beginning, bool) {
	if len(open) > 0 && b.isPlan(open[0]) {
		return open[0], true // none can be smaller
	}
	var plans []*beginning
	for _, p := range open {
		if plan, ok := b.completed(p); ok {
			plans = append(plans, plan)
		}
	}
	if len(plans) == 0 {
		return nil, false
	}
	return slices.MinFunc(plans, compare), true
}

// completed returns a plan with some beginning: each bridge that is left gets the
// choice with which the beginning is smallest and not broken, as long as there is
// one.
func (b board) completed(p *beginning) (*beginning, bool) {
	for !b.isPlan(p) {
		var next []*beginning
		for _, o := range b.following(p) {
			if q := b.with(p, o); b.allows(q) == api.OK {
				next = append(next, q)
			}
		}
		if len(next) == 0 {
			return nil, false
		}
		p = slices.MinFunc(next, compare)
	}
	return p, true
}
