package locate

import (
	"cmp"
	"slices"
	"sort"

	"meresman/frac"
	"meresman/point"
)

// sweep returns for each vertex the edges that run across from it, or a vertex before it, to one after it, the lowest edge first.
// They change from vertex to vertex, but no two of them change places as long as both are there.
func (l *Locator) sweep() [][]int {
	var lists [][]int
	var across []int
	for v := range l.V {
		across = l.passed(across, v)
		lists = append(lists, slices.Clone(across))
	}
	return lists
}

// passed replaces the edges that end at a vertex by those that begin there.
func (l *Locator) passed(across []int, v int) []int {
	endsHere := func(edge int) bool { return l.E[edge].B == v }
	place := slices.IndexFunc(across, endsHere)
	if place < 0 {
		place = l.countBelow(across, l.V[v])
	}
	return slices.Insert(slices.DeleteFunc(across, endsHere), place, l.beginning(v)...)
}

// beginning returns the edges that begin at a vertex, the lowest one first, and an upright one last.
func (l *Locator) beginning(v int) []int {
	var edges []int
	for edge := sort.Search(len(l.E), func(i int) bool { return l.E[i].A >= v }); edge < len(l.E) && l.E[edge].A == v; edge++ {
		edges = append(edges, edge)
	}
	slices.SortFunc(edges, func(e, f int) int {
		c, d := l.E[e].Dir, l.E[f].Dir
		return cmp.Compare(c.Y*d.X, d.Y*c.X) // of which none exceeds 2^62
	})
	return edges
}

// upTo returns how many vertices have at most an X.
func (l *Locator) upTo(x frac.Frac) int {
	return sort.Search(len(l.V), func(i int) bool { return frac.Compare(l.V[i].X, x) > 0 })
}

// parted returns, of the edges across from the first n vertices to others, those below and those above a point, or the points
// just beyond it, just above the direction (1, 0), if an edge runs through the point itself.
func (l *Locator) parted(n int, p point.P) (below, above []int) {
	if n == 0 {
		return nil, nil
	}
	list := l.across[n-1]
	count := l.countBelow(list, p)
	return list[:count], list[count:]
}

// countBelow returns how many edges of a list run below a point; it is right, if l.side has no error for the last of them and the
// first one that does not.
func (l *Locator) countBelow(list []int, p point.P) int {
	// isAbove tells whether an edge runs above p: one through p does so, if it climbs from there.
	isAbove := func(i int) bool {
		side, _ := l.side(list[i], p)
		return side < 0 || side == 0 && l.E[list[i]].Dir.Y > 0
	}
	return sort.Search(len(list), isAbove)
}
