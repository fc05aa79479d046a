package faces

import (
	"slices"
	"sort"

	"meresman/api"
	"meresman/arrange"
	"meresman/exact"
)

// bound numbers the bounded faces. The half-edges of outside cycles get none for now.
func (f *Faces) bound(parts []part) {
	f.Left = make([]int, len(f.Next))
	for _, p := range parts {
		if p.outside != none {
			f.mark(p.outside, none)
		}
	}
	f.Outer = []int{none}
	for h := range f.Next {
		if f.Left[h] == 0 {
			f.mark(h, len(f.Outer))
			f.Outer = append(f.Outer, h)
		}
	}
}

// nest finds the face in which each component lies; ground has the edge nearest below each vertex, or none. The components come
// in the order of their least vertices, and so do their half-edges, because edges are in the order of their lesser vertices.
func (f *Faces) nest(parts []part, ground []int) {
	f.Inner, f.Alone = make([][]int, len(f.Outer)), make([][]int, len(f.Outer))
	for _, p := range parts {
		face := 0
		// The edge belongs to a component that begins before this one, so that even the face outside of that is known by now.
		if edge := ground[p.least]; edge != none {
			face = f.Left[2*edge]
		}
		if p.outside == none {
			f.Alone[face] = append(f.Alone[face], p.least)
		} else {
			f.Inner[face] = append(f.Inner[face], f.mark(p.outside, face))
		}
	}
}

// mark notes the face of all half-edges of a cycle, and returns the least one of them.
func (f *Faces) mark(h, face int) int {
	cycle, _ := Cycle(*f, h)
	for _, g := range cycle {
		f.Left[g] = face
	}
	return slices.Min(cycle)
}

// grounds returns for each vertex the edge that runs nearest below it, or none. It goes through the vertices from left to right
// with a list of the edges that run across, the lowest one first: no two edges change places as long as both are there.
func grounds(a arrange.Arr, around map[int][]int) []int {
	ground := make([]int, len(a.V))
	var across []int
	for v := range a.V {
		endsHere := func(e int) bool { return a.E[e].B == v }
		place := slices.IndexFunc(across, endsHere)
		if place < 0 {
			place = sort.Search(len(across), func(i int) bool { return !isAbove(a, v, across[i]) })
		}
		ground[v] = none
		if place > 0 {
			ground[v] = across[place-1]
		}
		across = slices.DeleteFunc(across, endsHere)
		across = slices.Insert(across, place, toTheRight(a, around[v])...)
	}
	return ground
}

// isAbove reports whether a vertex lies above the line of an edge that is not upright.
func isAbove(a arrange.Arr, v, edge int) bool {
	left, right := a.E[edge].A, a.E[edge].B
	side, _ := exact.Side(a.V[left], a.V[right], a.V[v])
	return side > 0
}

// toTheRight returns, of the half-edges that begin at a vertex, the edges that lead to the right, the lowest one first.
func toTheRight(a arrange.Arr, list []int) []int {
	var edges []int
	for _, h := range list {
		if ahead(a, h).X > 0 {
			edges = append(edges, h/2)
		}
	}
	// nearer tells which of two edges runs nearer below the points above both.
	nearer := func(e, f int) int {
		// Angles begin again at (1, 0), amid the directions to the right; turned by a quarter, these are all beyond it.
		order, _ := exact.Turn(quarter(a.E[e].Dir), quarter(a.E[f].Dir))
		return order
	}
	slices.SortFunc(edges, nearer)
	return edges
}

// quarter returns a direction turned by a quarter counterclockwise.
func quarter(d api.Point) api.Point {
	return api.Point{X: -d.Y, Y: d.X}
}
