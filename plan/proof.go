package plan

import (
	"voussoir/api"
	"voussoir/exact"
)

// proof returns a proof that no allowed plan has less risk than the first of the
// beginnings that a search left; if it left none, that no plan is allowed.
//
// All that the search left, or put aside, has at least the bound of the first
// one: so the proof splits only what the search has split, and does not need more
// nodes.
func (b board) proof(open frontier) api.Node {
	isCut := func(p *beginning) bool { return len(open) > 0 && p.bound.Cmp(open[0].bound) >= 0 }
	return b.node(b.start(), isCut)
}

// node returns a node that is right for a beginning, if it is right to cut all
// that are cut. All allowed plans must be among these.
func (b board) node(p *beginning, isCut func(p *beginning) bool) api.Node {
	if b.allows(p) != api.OK {
		return api.Node{Kind: api.NodeBroken}
	}
	if isCut(p) {
		return api.Node{Kind: api.NodeCut}
	}
	split := api.Node{Kind: api.NodeSplit}
	for _, o := range b.following(p) {
		split.Children = append(split.Children, b.node(b.with(p, o), isCut))
	}
	return split
}

// believes reports whether a node is right for a beginning. A right proof has at
// most as many nodes as there are beginnings, which is less than MaxNodes.
func (b board) believes(p *beginning, least exact.Q, n api.Node) bool {
	switch n.Kind {
	case api.NodeCut:
		return len(n.Children) == 0 && p.bound.Cmp(least) >= 0
	case api.NodeBroken:
		return len(n.Children) == 0 && b.allows(p) != api.OK
	case api.NodeSplit:
		return !b.isPlan(p) && b.believesAll(p, least, n.Children)
	}
	return false
}

// believesAll reports whether there is a node for each choice of the next bridge,
// which is right.
func (b board) believesAll(p *beginning, least exact.Q, children []api.Node) bool {
	following := b.following(p)
	if len(children) != len(following) {
		return false
	}
	for i, o := range following {
		if !b.believes(b.with(p, o), least, children[i]) {
			return false
		}
	}
	return true
}
