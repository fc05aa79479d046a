package snap

import (
	"slices"

	"meresman/api"
	"meresman/frac"
	"meresman/point"
	"meresman/wide"
)

// A valid drawing has no more of either.
const (
	maxVertices = 4096
	maxEdges    = 8192
)

// sheet is a valid drawing, of which vertices are moved.
type sheet struct {
	spots []spot // of the vertices
	edges [][2]int
	turns [][]int // the neighbours of each vertex, counterclockwise from any one on; no move changes them
}

// spread returns the sheet of a drawing, or the first error of the drawing.
func spread(d Drawing) (*sheet, api.Errno) {
	if len(d.V) > maxVertices || len(d.E) > maxEdges {
		return nil, api.ErrLimit
	}
	for i, ends := range d.E {
		proper := 0 <= ends[0] && ends[0] < ends[1] && ends[1] < len(d.V)
		if !proper || i > 0 && slices.Compare(d.E[i-1][:], ends[:]) >= 0 {
			return nil, api.ErrArg
		}
	}
	inRange := ranging()
	if slices.ContainsFunc(d.V, func(p point.P) bool { return !inRange(p) }) {
		return nil, api.ErrRange
	}
	order, different := ordered(d.V)
	if !different {
		return nil, api.ErrTwice
	}
	s := &sheet{spots: spotsOf(d.V), edges: slices.Clone(d.E)}
	var apart bool
	if s.turns, apart = newSweep(s.spots, s.edges, order).turns(); !apart {
		return nil, api.ErrCross
	}
	return s, api.OK
}

// ranging returns a function that reports whether a point is in range.
func ranging() func(point.P) bool {
	const most = api.MaxCoord
	box := api.Box{Min: api.Point{X: -most, Y: -most}, Max: api.Point{X: most, Y: most}}
	limit, _ := wide.Mul(wide.From(1<<32), wide.From(1<<32))
	short := func(x frac.Frac) bool { return wide.Compare(x.Den(), limit) <= 0 }
	return func(p point.P) bool { return short(p.X) && short(p.Y) && point.In(box, p) }
}

// ordered returns the numbers of points in the order of these, and whether all of them are different.
func ordered(list []point.P) ([]int, bool) {
	var order []int
	for i := range list {
		order = append(order, i)
	}
	compare := func(i, k int) int { return point.Compare(list[i], list[k]) }
	slices.SortFunc(order, compare)
	for i := 1; i < len(order); i++ {
		if compare(order[i-1], order[i]) == 0 {
			return nil, false
		}
	}
	return order, true
}

// drawing returns the drawing as it is now.
func (s *sheet) drawing() Drawing {
	d := Drawing{E: slices.Clone(s.edges)}
	for _, spot := range s.spots {
		d.V = append(d.V, spot.at)
	}
	return d
}

// join returns the spots of points in range, and gives those of the vertices the same unit.
func (s *sheet) join(list []point.P) []spot {
	vertices := len(s.spots)
	spots := spotsOf(slices.Concat(s.drawing().V, list))
	s.spots = spots[:vertices]
	return spots[vertices:]
}

// movable reports whether a vertex can move to a spot. The drawing is valid then, without being examined again: what meets a moved
// edge did not meet it before, and does not meet the way; so it has an end in the triangle of the edge, where no vertex lies.
// (A vertex can move to where it is already: then all triangles are edges, on which nothing lies.)
func (s *sheet) movable(v int, to spot) bool {
	from := s.spots[v]
	corners := []spot{from, to}
	for _, u := range s.turns[v] {
		corners = append(corners, s.spots[u])
	}
	around := s.others(v, boxOf(corners...))
	empty := func(corner spot, end int) bool {
		inside := within(from, to, corner)
		return !slices.ContainsFunc(around, func(w int) bool { return w != end && inside(s.spots[w]) })
	}
	if !empty(to, v) { // the way itself, as a flat triangle
		return false
	}
	for _, u := range s.turns[v] {
		if !empty(s.spots[u], u) {
			return false
		}
	}
	return !s.crossed(from, to)
}

// others returns the vertices in a box but one.
func (s *sheet) others(v int, box api.Box) []int {
	var list []int
	for w, p := range s.spots {
		if w != v && point.Meets(box, boxOf(p)) {
			list = append(list, w)
		}
	}
	return list
}

// crossed reports whether an edge meets the way from a vertex, at which it does not end, to a spot. No other vertex lies on the way,
// and this one on no other edge: so the ends of such an edge lie on both sides of the line of the way.
func (s *sheet) crossed(from, to spot) bool {
	box := boxOf(from, to)
	return slices.ContainsFunc(s.edges, func(ends [2]int) bool {
		a, b := s.spots[ends[0]], s.spots[ends[1]]
		if !point.Meets(box, boxOf(a, b)) {
			return false
		}
		return side(a, b, from)*side(a, b, to) <= 0 && side(from, to, a)*side(from, to, b) < 0
	})
}
