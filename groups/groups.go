// Package groups: groups: see doc/01-groups.md.
package groups

import (
	"iter"
	"slices"

	"furlong/api"
)

// Check tells whether l may be the groups of that many nodes.
func Check(nodes int, l []int) api.Errno {
	// A number below 0 has a bit beyond every node, and so is wrong as well.
	wrong := func(group int) bool { return group <= 0 || group>>nodes != 0 }
	switch {
	case nodes < 1 || nodes > api.MaxNodes:
		return api.ErrRange
	case len(l) < 1 || len(l) > api.MaxGroups:
		return api.ErrMany
	case slices.ContainsFunc(l, wrong):
		return api.ErrForm
	}
	return api.OK
}

// Has tells whether n is a member of group g.
func Has(l []int, g, n int) bool {
	return g >= 0 && g < len(l) && member(l[g], n)
}

// Of tells the groups that have n, rising.
func Of(l []int, n int) []int {
	var out []int
	for g := range having(l, n) {
		out = append(out, g)
	}
	return out
}

// Share tells whether there is a group that has both.
func Share(l []int, a, b int) bool {
	for range having(l, a, b) {
		return true
	}
	return false
}

// having goes through the groups that have all of these nodes, rising.
func having(l []int, nodes ...int) iter.Seq[int] {
	return func(yield func(int) bool) {
		for g, group := range l {
			lacks := func(n int) bool { return !member(group, n) }
			if !slices.ContainsFunc(nodes, lacks) && !yield(g) {
				return
			}
		}
	}
}

// member asks for n's bounds itself: a group may come in unchecked, with bits
// beyond the nodes, and a shift by less than 0 would panic.
func member(group, n int) bool {
	return n >= 0 && n < api.MaxNodes && group>>n&1 == 1
}
