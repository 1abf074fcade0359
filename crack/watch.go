package crack

import (
	"cmp"
	"slices"

	"voussoir/api"
	"voussoir/exact"
)

// Watch is elements that are watched.
type Watch struct {
	laws     [][]Step
	grid     exact.Q
	elements map[string]*element
}

// element is a crack that is watched.
type element struct {
	law      []Step
	size     exact.Span
	critical exact.Q
}

// NewWatch returns a watch without elements.
func NewWatch(laws [][]Step, grid exact.Q) (*Watch, api.Errno) {
	isWrong := func(l []Step) bool { return CheckLaw(l) != api.OK }
	switch {
	case len(laws) > api.MaxTeams:
		return nil, api.ErrLong
	case slices.ContainsFunc(laws, isWrong):
		return nil, api.ErrArg
	case isNegative(grid):
		return nil, api.ErrRange
	}
	w := &Watch{grid: grid, elements: map[string]*element{}}
	for _, l := range laws {
		w.laws = append(w.laws, slices.Clone(l))
	}
	return w, api.OK
}

// Add adds an element.
func (w *Watch) Add(name string, law int, size exact.Span, critical exact.Q) api.Errno {
	switch {
	case w == nil:
		return api.ErrNil
	case !isName(name) || !isFrom(0, law, len(w.laws)-1) || !isValid(size) || isNegative(critical):
		return api.ErrArg
	case w.elements[name] != nil:
		return api.ErrTwice
	case len(w.elements) >= api.MaxCracked:
		return api.ErrFull
	}
	w.elements[name] = &element{w.laws[law], size, critical}
	return api.OK
}

// Size returns the span of an element.
func (w *Watch) Size(name string) (exact.Span, api.Errno) {
	x, e := w.find(name)
	if e != api.OK {
		return exact.Span{}, e
	}
	return x.size, api.OK
}

// Tick lets a period pass.
func (w *Watch) Tick() {
	if w == nil {
		return
	}
	for _, x := range w.elements {
		x.size = grown(x.law, x.size, w.grid)
	}
}

// Inspect takes what inspectors found at an element.
func (w *Watch) Inspect(name string, findings []exact.Span) (Agreement, api.Errno) {
	x, e := w.find(name)
	if e != api.OK {
		return Agreement{}, e
	}
	a, e := Reconcile(x.size, findings)
	if e != api.OK {
		return Agreement{}, e
	}
	x.size = a.Size
	return a, api.OK
}

// Repair makes the span of an element another one.
func (w *Watch) Repair(name string, size exact.Span) api.Errno {
	x, e := w.find(name)
	if e != api.OK {
		return e
	}
	if !isValid(size) {
		return api.ErrArg
	}
	x.size = size
	return api.OK
}

// Due returns the elements with their deadlines.
func (w *Watch) Due() []api.Due {
	if w == nil {
		return nil
	}
	var list []api.Due
	for name, x := range w.elements {
		// The only error is that of an element among the alarms.
		if deadline, e := Deadline(x.law, x.size, x.critical, w.grid); e == api.OK {
			list = append(list, api.Due{Name: name, Deadline: deadline})
		}
	}
	slices.SortFunc(list, func(a, b api.Due) int {
		return cmp.Or(cmp.Compare(a.Deadline, b.Deadline), cmp.Compare(a.Name, b.Name))
	})
	return list
}

// Alarms returns the elements that may have passed their critical sizes.
func (w *Watch) Alarms() []string {
	if w == nil {
		return nil
	}
	var names []string
	for name, x := range w.elements {
		if x.size.High.Cmp(x.critical) > 0 {
			names = append(names, name)
		}
	}
	slices.Sort(names)
	return names
}

// find returns the element with a name.
func (w *Watch) find(name string) (*element, api.Errno) {
	if w == nil {
		return nil, api.ErrNil
	}
	x, found := w.elements[name]
	if !found {
		return nil, api.ErrNone
	}
	return x, api.OK
}
