package faces

import (
	"slices"

	"meresman/api"
	"meresman/arrange"
	"meresman/exact"
)

// ends is the vertices at which a half-edge begins and ends; no other half-edge has the same ones.
type ends struct{ from, to int }

// endsOf returns the ends of a half-edge.
func endsOf(a arrange.Arr, h int) ends {
	edge := &a.E[h/2]
	if h%2 == 0 {
		return ends{edge.A, edge.B}
	}
	return ends{edge.B, edge.A}
}

// turned returns the ends of the twin.
func (e ends) turned() ends {
	return ends{e.to, e.from}
}

// twin returns the half-edge along the same edge in the other direction.
func twin(h int) int {
	return h ^ 1
}

// ahead returns the direction of a half-edge.
func ahead(a arrange.Arr, h int) api.Point {
	d, sign := a.E[h/2].Dir, 1-h%2*2
	return api.Point{X: d.X * sign, Y: d.Y * sign}
}

// beginnings returns for each vertex with edges the half-edges that begin there, in the order of arrange.Around, which would
// go through all edges for each vertex.
func beginnings(a arrange.Arr) map[int][]int {
	around := map[int][]int{}
	for h := range 2 * len(a.E) {
		v := endsOf(a, h).from
		around[v] = append(around[v], h)
	}
	for _, list := range around {
		slices.SortFunc(list, func(g, h int) int {
			order, _ := exact.Turn(ahead(a, g), ahead(a, h))
			return order
		})
	}
	return around
}

// following returns for each half-edge the next one of its cycle.
func following(a arrange.Arr, around map[int][]int) []int {
	next := make([]int, 2*len(a.E))
	for h := range next {
		way := endsOf(a, h)
		list := around[way.to]
		back := slices.IndexFunc(list, func(g int) bool { return endsOf(a, g) == way.turned() })
		next[h] = list[(back+len(list)-1)%len(list)]
	}
	return next
}

// none stands for a half-edge, an edge or a face, where there is none.
const none = -1

// part is a component: its least vertex, and a half-edge of its outside cycle, or none, if the vertex is isolated.
type part struct{ least, outside int }

// partsOf returns the components in the order of their least vertices.
func partsOf(a arrange.Arr, around map[int][]int) []part {
	var parts []part
	for v, least := range Components(a) {
		if v == least {
			parts = append(parts, part{v, outsideOf(a, around[v])})
		}
	}
	return parts
}

// outsideOf returns, of the half-edges around the least vertex of a component, the one that has the direction (-1, 0) to its
// left, in which no edge leads from there, nor in (0, -1); none, if there are no half-edges.
func outsideOf(a arrange.Arr, list []int) int {
	for _, h := range slices.Backward(list) {
		if ahead(a, h).Y >= 0 {
			return h
		}
	}
	if len(list) == 0 {
		return none
	}
	return list[len(list)-1]
}
