package snap

import (
	"meresman/api"
	"meresman/exact"
	"meresman/frac"
	"meresman/point"
	"meresman/wide"
)

// spot is a point in range, and the point of the grid that is reached by rounding down its coordinates, in a unit that all spots
// share that are compared: it decides most questions many times faster than fractions.
type spot struct {
	at   point.P
	near api.Point
}

// spotsOf returns the spots of points in range. Their unit is 1, divided into as many parts as leave all of near valid.
func spotsOf(list []point.P) []spot {
	size := 1 // no coordinate is farther from 0
	for _, p := range list {
		for _, x := range [2]frac.Frac{p.X, p.Y} {
			n := down(x, 1)
			size = max(size, -n, n+1)
		}
	}
	parts := 1
	for 2*parts*size <= api.MaxCoord {
		parts *= 2
	}
	var spots []spot
	for _, p := range list {
		spots = append(spots, spot{p, api.Point{X: down(p.X, parts), Y: down(p.Y, parts)}})
	}
	return spots
}

// down returns a coordinate times parts, rounded down.
func down(x frac.Frac, parts int) int {
	num, _ := wide.Mul(x.Num(), wide.From(parts))
	quotient, _, _ := wide.Div(num, x.Den())
	n, _ := quotient.Small()
	return n
}

// side tells on which side of the line from a to b a spot lies: 1 left, -1 right, 0 on it.
func side(a, b, c spot) int {
	bx, by := b.near.X-a.near.X, b.near.Y-a.near.Y
	cx, cy := c.near.X-a.near.X, c.near.Y-a.near.Y
	area := bx*cy - by*cx
	// Each of the four is wrong by less than 1, each product by less than both of its factors and 1, and the area by less than:
	doubt := max(bx, -bx) + max(by, -by) + max(cx, -cx) + max(cy, -cy) + 2
	switch {
	case area >= doubt:
		return 1
	case area <= -doubt:
		return -1
	}
	side, _ := exact.Side(a.at, b.at, c.at)
	return side
}

// boxOf returns the box around near of some spots, of which there is at least one. Rounding down keeps the order: so what lies
// between the spots has near in the box.
func boxOf(list ...spot) api.Box {
	box := api.Box{Min: list[0].near, Max: list[0].near}
	for _, s := range list[1:] {
		box.Min = api.Point{X: min(box.Min.X, s.near.X), Y: min(box.Min.Y, s.near.Y)}
		box.Max = api.Point{X: max(box.Max.X, s.near.X), Y: max(box.Max.Y, s.near.Y)}
	}
	return box
}

// within returns a function that reports whether a spot lies in a triangle, its border included; a flat one consists of the points
// between its corners.
func within(a, b, c spot) func(spot) bool {
	box := boxOf(a, b, c)
	return func(p spot) bool {
		if !point.Meets(box, boxOf(p)) {
			return false
		}
		left, right := false, false
		for _, ends := range [3][2]spot{{b, c}, {c, a}, {a, b}} {
			side := side(ends[0], ends[1], p)
			left, right = left || side > 0, right || side < 0
			if left && right {
				return false
			}
		}
		where, _ := exact.Triangle(a.at, b.at, c.at, p.at)
		return where >= 0
	}
}
