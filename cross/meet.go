package cross

import (
	"slices"

	"meresman/api"
	"meresman/exact"
	"meresman/frac"
	"meresman/point"
)

// The functions of this file work on valid segments and points of the grid. These are so far from all limits that none of
// the functions that they call can fail.

// meet is Meet for valid segments.
func meet(s, t api.Seg) Cut {
	// Segments of one line meet exactly if their boxes do; and most segments of a map are told apart by their boxes at once.
	if !point.Meets(boxOf(s), boxOf(t)) {
		return Cut{}
	}
	ofS, ofT := sides(s, t), sides(t, s)
	switch {
	case ofS > 0 || ofT > 0:
		return Cut{}
	case ofS < 0 && ofT < 0:
		return Cut{Kind: Touch, At: crossing(s, t)}
	default:
		return meetAtEnds(s, t)
	}
}

// sides returns 1 or -1, if both ends of s lie beside the line of t, on the same side or on different ones, and otherwise 0.
func sides(s, t api.Seg) int {
	a, _ := exact.SideOf(t.A, t.B, s.A)
	b, _ := exact.SideOf(t.A, t.B, s.B)
	return a * b
}

// meetAtEnds returns what segments have in common that meet, but do not cross: it begins and ends where one of them does.
func meetAtEnds(s, t api.Seg) Cut {
	var ends []point.P
	for _, pair := range [2][2]api.Seg{{s, t}, {t, s}} {
		for _, p := range [2]api.Point{pair[0].A, pair[0].B} {
			if holds(pair[1], p) {
				ends = append(ends, point.Of(p))
			}
		}
	}
	at, to := slices.MinFunc(ends, point.Compare), slices.MaxFunc(ends, point.Compare)
	if point.Compare(at, to) == 0 {
		return Cut{Kind: Touch, At: at}
	}
	return Cut{Kind: Along, At: at, To: to}
}

// crossing returns the point that segments have in common of which each has its ends on different sides of the other one.
func crossing(s, t api.Seg) point.P {
	a, b, c, d := point.Of(s.A), point.Of(s.B), point.Of(t.A), point.Of(t.B)
	// These areas have different signs, and are to one another as the distances of a and b from the line of t.
	before, _ := exact.Area(c, d, a)
	behind, _ := exact.Area(c, d, b)
	whole, _ := frac.Sub(before, behind)
	part, _ := frac.Div(before, whole)
	return point.P{X: onTheWay(a.X, b.X, part), Y: onTheWay(a.Y, b.Y, part)}
}

// onTheWay returns the number that is reached from a after a part of the way to b.
func onTheWay(a, b, part frac.Frac) frac.Frac {
	way, _ := frac.Sub(b, a)
	gone, _ := frac.Mul(way, part)
	sum, _ := frac.Add(a, gone)
	return sum
}

// holds is On for points of the grid.
func holds(s api.Seg, p api.Point) bool {
	side, _ := exact.SideOf(s.A, s.B, p)
	return side == 0 && point.Meets(boxOf(s), api.Box{Min: p, Max: p})
}

// boxOf returns the least box that a segment lies in.
func boxOf(s api.Seg) api.Box {
	return api.Box{
		Min: api.Point{X: min(s.A.X, s.B.X), Y: min(s.A.Y, s.B.Y)},
		Max: api.Point{X: max(s.A.X, s.B.X), Y: max(s.A.Y, s.B.Y)},
	}
}
