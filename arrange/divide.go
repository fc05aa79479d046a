package arrange

import (
	"cmp"
	"slices"

	"meresman/api"
	"meresman/cross"
	"meresman/point"
)

// The functions of this file work on valid segments and points, so that no function of package cross that they call can fail.

// maxVertices is how many vertices an arrangement can have.
const maxVertices = 4096

// divide returns the vertices, and for each segment those that lie on it, in any order and perhaps several times.
func divide(s []api.Seg, points []api.Point) ([]point.P, [][]point.P, api.Errno) {
	var all []point.P
	for _, p := range points {
		all = append(all, point.Of(p))
	}
	on := make([][]point.P, len(s))
	for i, t := range s {
		own, _ := cross.Parts(t, nil, points)
		for k, u := range s[:i] {
			both := common(t, u)
			own = append(own, both...)
			on[k] = append(on[k], both...)
		}
		on[i] = own
		all = append(all, own...)
		// Hundreds of segments can meet in 131,000 points: it is not worth while to find all of them where they are too many.
		if len(all) > 2*maxVertices {
			var e api.Errno
			if all, e = inOrder(all); e != api.OK {
				return nil, nil, e
			}
		}
	}
	vertices, e := inOrder(all)
	return vertices, on, e
}

// common returns the vertices that two segments have because of one another.
func common(s, t api.Seg) []point.P {
	switch cut, _ := cross.Meet(s, t); cut.Kind {
	case cross.Touch:
		return []point.P{cut.At}
	case cross.Along:
		return []point.P{cut.At, cut.To}
	default:
		return nil
	}
}

// inOrder sorts the points of a list, and returns each once; ErrLimit, if they are too many for vertices.
func inOrder(list []point.P) ([]point.P, api.Errno) {
	slices.SortFunc(list, point.Compare)
	list = slices.CompactFunc(list, func(p, q point.P) bool { return point.Compare(p, q) == 0 })
	if len(list) > maxVertices {
		return nil, api.ErrLimit
	}
	return list, api.OK
}

// edges returns the edges of an arrangement with these segments and vertices, of which on lists those on each segment.
func edges(a Arr, on [][]point.P) []Edge {
	of := map[[2]int][]int{}
	for i, points := range on {
		line := numbers(a, points)
		for k, v := range line[1:] {
			ends := [2]int{line[k], v}
			of[ends] = append(of[ends], i)
		}
	}
	var list []Edge
	for ends, segs := range of {
		list = append(list, Edge{A: ends[0], B: ends[1], Of: segs, Dir: direction(a.Segs[segs[0]])})
	}
	slices.SortFunc(list, func(e, f Edge) int { return cmp.Or(cmp.Compare(e.A, f.A), cmp.Compare(e.B, f.B)) })
	return list
}

// numbers returns the numbers of the vertices at points, in order, each once: along a segment, they follow one another so.
func numbers(a Arr, points []point.P) []int {
	var list []int
	for _, p := range points {
		v, _ := Vertex(a, p)
		list = append(list, v)
	}
	slices.Sort(list)
	return slices.Compact(list)
}

// direction returns the direction of a segment from its lesser end on, as two integers without a common divisor.
func direction(s api.Seg) api.Point {
	n, _ := cross.Normal(s)
	x, y := n.B.X-n.A.X, n.B.Y-n.A.Y
	divisor, rest := x, y
	for rest != 0 {
		divisor, rest = rest, divisor%rest
	}
	divisor = max(divisor, -divisor)
	return api.Point{X: x / divisor, Y: y / divisor}
}
