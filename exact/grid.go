package exact

import (
	"cmp"

	"meresman/api"
	"meresman/point"
	"meresman/wide"
)

// The functions of this file work on valid points of the grid and on directions: none of their coordinates, and no
// difference of two, is farther than 2^31 from 0. So a product of two is an int, while a sum of two products may be none.

const mostOfDirection = 1 << 31

// valid returns ErrRange, if one of the points is not valid.
func valid(points ...api.Point) api.Errno {
	for _, p := range points {
		if e := point.Valid(p); e != api.OK {
			return e
		}
	}
	return api.OK
}

// directions returns the error of the first point that is no direction.
func directions(points ...api.Point) api.Errno {
	for _, p := range points {
		switch {
		case max(p.X, p.Y) > mostOfDirection || min(p.X, p.Y) < -mostOfDirection:
			return api.ErrRange
		case p == api.Point{}:
			return api.ErrArg
		}
	}
	return api.OK
}

// onGrid returns three points as points of the grid and true, if all of them are valid ones.
func onGrid(points [3]point.P) (list [3]api.Point, all bool) {
	for i, p := range points {
		if list[i], all = point.Whole(p); !all {
			break
		}
	}
	return list, all
}

// gridSide is SideOf for valid points.
func gridSide(a, b, c api.Point) int {
	return bend(away(a, b), away(a, c))
}

// away returns the way from a to b.
func away(a, b api.Point) api.Point {
	return api.Point{X: b.X - a.X, Y: b.Y - a.Y}
}

// bend returns 1 or -1, if less than half a turn leads from a to b counterclockwise or clockwise, and otherwise 0.
func bend(a, b api.Point) int {
	return cmp.Compare(a.X*b.Y, a.Y*b.X)
}

// compareAngles is Turn for directions.
func compareAngles(a, b api.Point) int {
	if order := cmp.Compare(half(a), half(b)); order != 0 {
		return order
	}
	return bend(b, a)
}

// half returns 0, if the angle of a direction is less than half a turn, and otherwise 1.
func half(d api.Point) int {
	if d.Y > 0 || d.Y == 0 && d.X > 0 {
		return 0
	}
	return 1
}

// view returns how far b is ahead, and how far to the left, if one looks from p towards a; both times the distance of a.
func view(a, b, p api.Point) [2]wide.Int {
	toA, toB := away(p, a), away(p, b)
	ahead, _ := wide.Add(wide.From(toA.X*toB.X), wide.From(toA.Y*toB.Y))
	left, _ := wide.Sub(wide.From(toA.X*toB.Y), wide.From(toA.Y*toB.X))
	return [2]wide.Int{ahead, left}
}
