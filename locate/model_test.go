package locate_test

import (
	"math/big"
	"slices"

	"meresman/api"
	"meresman/arrange"
	"meresman/faces"
	"meresman/frac"
	"meresman/locate"
	"meresman/point"
)

// The model of this file follows the words of the chapter with math/big: it counts the half-edges that run below a point.

// rat is a point whose coordinates are numbers of math/big.
type rat struct{ x, y *big.Rat }

// model is an arrangement with its bounded faces.
type model struct {
	points []point.P // the vertices
	v      []rat     // the same ones
	edges  []arrange.Edge
	outer  [][]int // for each face the edges along its outer cycle
	least  []int   // for each face the least vertex of its component
}

func modelOf(a arrange.Arr, f faces.Faces) model {
	m := model{points: a.V, edges: a.E}
	for _, p := range a.V {
		m.v = append(m.v, ratOf(p))
	}
	components := faces.Components(a)
	for face, h := range f.Outer {
		var edges []int
		least := 0
		if face > 0 {
			cycle, _ := faces.Cycle(f, h)
			for _, g := range cycle {
				edges = append(edges, g/2)
			}
			least = components[a.E[h/2].A]
		}
		m.outer, m.least = append(m.outer, edges), append(m.least, least)
	}
	return m
}

// find returns where a point lies; a spot of the kind -1, if there is no innermost face.
func (m model) find(p rat) locate.Spot {
	for v, q := range m.v {
		if q.x.Cmp(p.x) == 0 && q.y.Cmp(p.y) == 0 {
			return locate.Spot{Kind: locate.AtVertex, Index: v}
		}
	}
	for i, e := range m.edges {
		if m.holds(m.v[e.A], m.v[e.B], p) {
			return locate.Spot{Kind: locate.OnEdge, Index: i}
		}
	}
	return m.innermost(m.facesAround(p))
}

// holds reports whether the segment between two points holds a third one.
func (m model) holds(a, b, p rat) bool {
	return between(a.x, p.x, b.x) && between(a.y, p.y, b.y) && bend(a, b, p) == 0
}

// facesAround returns the bounded faces inside whose outer cycles a point lies.
func (m model) facesAround(p rat) []int {
	below := make([]bool, len(m.edges))
	for i, e := range m.edges {
		below[i] = m.v[e.A].x.Cmp(p.x) <= 0 && p.x.Cmp(m.v[e.B].x) < 0 && bend(m.v[e.A], m.v[e.B], p) > 0
	}
	var list []int
	for face, edges := range m.outer {
		count := 0
		for _, e := range edges {
			if below[e] {
				count++
			}
		}
		if count%2 == 1 {
			list = append(list, face)
		}
	}
	return list
}

// innermost returns, of faces, that for which the least vertex of its component lies inside the outer cycles of all others.
func (m model) innermost(around []int) locate.Spot {
	if len(around) == 0 {
		return locate.Spot{Kind: locate.InFace}
	}
	var found []int
	for _, face := range around {
		further := m.facesAround(m.v[m.least[face]])
		isFurther := func(other int) bool { return other == face || slices.Contains(further, other) }
		if !slices.ContainsFunc(around, func(other int) bool { return !isFurther(other) }) {
			found = append(found, face)
		}
	}
	if len(found) != 1 {
		return locate.Spot{Kind: -1}
	}
	return locate.Spot{Kind: locate.InFace, Index: found[0]}
}

// face returns the face of a point of the grid: that of a point beyond it.
func (m model) face(p api.Point) locate.Spot {
	return m.find(ratOf(beyond(p, 80)))
}

// beyond returns the point (x + d, y + d d) for d = 1 / 2^n. From n = 70 on it lies to the same side of all lines through valid
// points, as their slopes are at most 2^31 and those that do not hold p miss it by 1 / 2^31 at least, and to the left of the
// vertices to the right of p, whose denominators have at most 64 bits.
func beyond(p api.Point, n int) point.P {
	return shifted(point.Of(p), power(2, -n), power(2, -2*n))
}

// shifted returns a point with x and y added to its coordinates.
func shifted(p point.P, x, y frac.Frac) point.P {
	p.X, _ = frac.Add(p.X, x)
	p.Y, _ = frac.Add(p.Y, y)
	return p
}

// between reports whether b is neither less than both others nor greater than both.
func between(a, b, c *big.Rat) bool {
	return a.Cmp(b)*b.Cmp(c) >= 0
}

// bend returns 1, -1 or 0, if c lies to the left of the line from a to b, to the right, or on it.
func bend(a, b, c rat) int {
	left := new(big.Rat).Mul(minus(b.x, a.x), minus(c.y, a.y))
	return left.Cmp(new(big.Rat).Mul(minus(b.y, a.y), minus(c.x, a.x)))
}

func minus(a, b *big.Rat) *big.Rat {
	return new(big.Rat).Sub(a, b)
}

func ratOf(p point.P) rat {
	x, _ := new(big.Rat).SetString(p.X.String())
	y, _ := new(big.Rat).SetString(p.Y.String())
	return rat{x, y}
}

// bits returns how many bits the greatest numerator or denominator of a point has.
func bits(p point.P) int {
	q := ratOf(p)
	return max(q.x.Num().BitLen(), q.x.Denom().BitLen(), q.y.Num().BitLen(), q.y.Denom().BitLen())
}
