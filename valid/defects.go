package valid

import (
	"slices"
	"sort"

	"meresman/api"
	"meresman/exact"
	"meresman/frac"
	"meresman/point"
	"meresman/wide"
)

// nothing stands for an index, where there is none.
const nothing = -1

// vertexDefect returns the first defect of vertices.
func vertexDefect(v []point.P) Defect {
	small := smallness()
	for i, p := range v {
		if !small(p) || i > 0 && point.Compare(p, v[i-1]) <= 0 {
			return Defect{BadVertex, i, nothing}
		}
	}
	return Defect{}
}

// smallness returns a function that reports whether a point is small.
func smallness() func(point.P) bool {
	const most = api.MaxCoord
	box := api.Box{Min: api.Point{X: -most, Y: -most}, Max: api.Point{X: most, Y: most}}
	limit, _ := wide.Mul(wide.From(1<<32), wide.From(1<<32))
	short := func(x frac.Frac) bool { return wide.Compare(x.Den(), limit) <= 0 }
	return func(p point.P) bool { return point.In(box, p) && short(p.X) && short(p.Y) }
}

// edgeDefect returns the first defect of edges alone.
func edgeDefect(d Draft) Defect {
	for i, e := range d.E {
		proper := 0 <= e[0] && e[0] < e[1] && e[1] < len(d.V)
		if !proper || i > 0 && slices.Compare(e[:], d.E[i-1][:]) <= 0 {
			return Defect{BadEdge, i, nothing}
		}
	}
	return Defect{}
}

// crossDefect returns the first defect of edges that cross, or on which vertices lie; there is one. The edges are proper.
func crossDefect(d Draft) Defect {
	// Of the edges up to i, one crosses another one or has a vertex on it, exactly if i is not less than the edge that is searched.
	i := sort.Search(len(d.E), func(i int) bool {
		_, apart := swept(d.V, d.E[:i+1])
		return !apart
	})
	a, b := d.E[i][0], d.E[i][1]
	// In their order, the vertices within an edge stand between both ends.
	for v := a + 1; v < b; v++ {
		if on, _ := exact.Between(d.V[a], d.V[b], d.V[v]); on {
			return Defect{BadCross, i, v}
		}
	}
	crosses := func(e [2]int) bool { return parts(d.V, e, d.E[i]) && parts(d.V, d.E[i], e) }
	return Defect{BadCross, i, slices.IndexFunc(d.E[:i], crosses)}
}

// parts reports whether the ends of the edge f lie to different sides of the line of the edge e.
func parts(v []point.P, e, f [2]int) bool {
	from, _ := exact.Side(v[e[0]], v[e[1]], v[f[0]])
	to, _ := exact.Side(v[e[0]], v[e[1]], v[f[1]])
	return from*to < 0
}

// listDefect returns the first defect of a list that should be another one.
func listDefect(kind int, list, should []int) Defect {
	row, place := unlike([][]int{list}, [][]int{should})
	switch {
	case row == nothing:
		return Defect{}
	case place < len(should):
		return Defect{kind, place, should[place]}
	default:
		return Defect{kind, place, nothing}
	}
}

// listsDefect returns the first defect of lists that should be other ones.
func listsDefect(kind int, lists, should [][]int) Defect {
	row, _ := unlike(lists, should)
	if row == nothing {
		return Defect{}
	}
	return Defect{kind, row, nothing}
}

// unlike returns the first list that is not as it should be, or is missing or one too many, and its first element of which this
// is so; nothing, if there is none.
func unlike[T comparable](lists, should [][]T) (row, place int) {
rows:
	for ; row < len(should) && row < len(lists); row++ {
		list := lists[row]
		for place = range max(len(list), len(should[row])) {
			if place >= len(list) || place >= len(should[row]) || list[place] != should[row][place] {
				break rows
			}
		}
	}
	if row == len(should) && row == len(lists) {
		return nothing, nothing
	}
	return row, place
}
