package locate

import (
	"slices"

	"meresman/api"
	"meresman/exact"
	"meresman/frac"
	"meresman/point"
)

// copied returns the vertices and edges of an arrangement in memory of their own.
func copied(a arrangement) arrangement {
	own := arrangement{V: slices.Clone(a.V), E: slices.Clone(a.E)}
	for i := range own.E {
		own.E[i].Of = slices.Clone(own.E[i].Of)
	}
	return own
}

// linesOf returns for each segment its ends, the lesser one first.
func linesOf(segs []api.Seg) [][2]point.P {
	var lines [][2]point.P
	for _, s := range segs {
		line := [2]point.P{point.Of(s.A), point.Of(s.B)}
		slices.SortFunc(line[:], point.Compare)
		lines = append(lines, line)
	}
	return lines
}

// lineOf returns the ends of a segment on which an edge lies. They are points of the grid, with which exact.Side is several times
// faster than with the ends of the edge.
func (l *Locator) lineOf(edge int) [2]point.P {
	return l.lines[l.E[edge].Of[0]]
}

// side tells on which side of the line of an edge a point lies: 1 left, which is above unless the edge is upright, -1 right, 0 on it.
func (l *Locator) side(edge int, p point.P) (int, api.Errno) {
	line := l.lineOf(edge)
	return exact.Side(line[0], line[1], p)
}

// pointOf returns the point with an X on the line of an edge that is not upright. X is small enough for no error.
func (l *Locator) pointOf(edge int, x frac.Frac) point.P {
	from, dir := l.lineOf(edge)[0], l.E[edge].Dir
	slope, _ := frac.Of(dir.Y, dir.X)
	ahead, _ := frac.Sub(x, from.X)
	rise, _ := frac.Mul(slope, ahead)
	y, _ := frac.Add(from.Y, rise)
	return point.P{X: x, Y: y}
}

// faceAbove returns the face above the last edge of a list, or the face 0, if there is none.
func (l *Locator) faceAbove(below []int) int {
	if len(below) == 0 {
		return 0
	}
	return l.left[2*below[len(below)-1]]
}

// floorsOf returns for each face an edge that is not upright and has the face above it; face 0 need not have one.
func (l *Locator) floorsOf(count int) []int {
	floors := make([]int, count)
	for i, edge := range l.E {
		if edge.Dir.X > 0 {
			floors[l.left[2*i]] = i
		}
	}
	return floors
}
