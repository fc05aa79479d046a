package overlay_test

import (
	"math/rand/v2"
	"slices"

	"meresman/api"
	"meresman/overlay"
)

// The maps that are put into one.

const most = api.MaxCoord

func xy(x, y int) api.Point {
	return api.Point{X: x, Y: y}
}

// line returns the map with the segments from each point to the next one.
func line(points ...api.Point) overlay.Layer {
	var l overlay.Layer
	for i, p := range points[1:] {
		l.Segs = append(l.Segs, api.Seg{A: points[i], B: p})
	}
	return l
}

// ring returns the map with the segments from each point to the next one, and from the last one to the first one.
func ring(points ...api.Point) overlay.Layer {
	return line(append(points, points[0])...)
}

// square returns the map with the square from (x, y) to (x + size, y + size).
func square(x, y, size int) overlay.Layer {
	return ring(xy(x, y), xy(x+size, y), xy(x+size, y+size), xy(x, y+size))
}

// dots returns the map with points alone.
func dots(points ...api.Point) overlay.Layer {
	return overlay.Layer{Points: points}
}

// joined returns the map with the segments and points of all maps, one map after the other.
func joined(maps ...overlay.Layer) overlay.Layer {
	var l overlay.Layer
	for _, m := range maps {
		l.Segs = append(l.Segs, m.Segs...)
		l.Points = append(l.Points, m.Points...)
	}
	return l
}

// dealt returns n maps, to which the segments and points of a map are dealt out in turn.
func dealt(m overlay.Layer, n int) []overlay.Layer {
	list := make([]overlay.Layer, n)
	for i, s := range m.Segs {
		list[i%n].Segs = append(list[i%n].Segs, s)
	}
	for i, p := range m.Points {
		list[i%n].Points = append(list[i%n].Points, p)
	}
	return list
}

// moved returns a map of which all coordinates are multiplied by k, and then shifted by those of a point.
func moved(m overlay.Layer, k int, by api.Point) overlay.Layer {
	place := func(p api.Point) api.Point { return xy(p.X*k+by.X, p.Y*k+by.Y) }
	var far overlay.Layer
	for _, s := range m.Segs {
		far.Segs = append(far.Segs, api.Seg{A: place(s.A), B: place(s.B)})
	}
	for _, p := range m.Points {
		far.Points = append(far.Points, place(p))
	}
	return far
}

// triangles returns all triangles between points of a grid of 3 x 3.
func triangles() []overlay.Layer {
	var list []overlay.Layer
	for i := range 9 {
		for j := range i {
			for k := range j {
				p, q, r := xy(i/3, i%3), xy(j/3, j%3), xy(k/3, k%3)
				if (q.X-p.X)*(r.Y-p.Y) != (q.Y-p.Y)*(r.X-p.X) {
					list = append(list, ring(p, q, r))
				}
			}
		}
	}
	return list
}

// someMaps returns up to six maps of all kinds, with coordinates from 0 to 16; some are equal, or parts of others.
func someMaps(source *rand.Rand) []overlay.Layer {
	var list []overlay.Layer
	for range source.IntN(7) {
		switch kind := source.IntN(8); {
		case kind < 3 || len(list) == 0:
			list = append(list, someMap(source))
		case kind == 3:
			list = append(list, list[source.IntN(len(list))])
		case kind == 4:
			list = append(list, dealt(list[source.IntN(len(list))], 2)[0])
		case kind == 5:
			list = append(list, joined(list[source.IntN(len(list))], list[source.IntN(len(list))]))
		case kind == 6:
			list = append(list, dots(xy(source.IntN(17), source.IntN(17)), xy(source.IntN(17), source.IntN(17))))
		default:
			list = append(list, overlay.Layer{})
		}
	}
	return list
}

// someMap returns rings within rings, or segments and points of a small grid, which often meet or lie above one another.
func someMap(source *rand.Rand) overlay.Layer {
	if source.IntN(2) == 0 {
		l := square(source.IntN(4), source.IntN(4), 13-source.IntN(5))
		for range source.IntN(4) {
			x, y, size := source.IntN(10), source.IntN(10), 1+source.IntN(6)
			l = joined(l, []overlay.Layer{
				square(x, y, size), ring(xy(x+size, y), xy(x+2, y+size), xy(x, y)), line(xy(x, y), xy(x+size, y+3), xy(x+2, y+size)), dots(xy(x, y)),
			}[source.IntN(4)])
		}
		return l
	}
	size := 3 + source.IntN(5)
	var l overlay.Layer
	for range source.IntN(9) {
		if s := (api.Seg{A: xy(source.IntN(size), source.IntN(size)), B: xy(source.IntN(size), source.IntN(size))}); s.A != s.B {
			l.Segs = append(l.Segs, s)
		}
	}
	for range source.IntN(4) {
		l.Points = append(l.Points, xy(source.IntN(size), source.IntN(size)))
	}
	return l
}

// steepMaps returns maps with coordinates up to the limits, in which ends that would meet miss each other by little.
func steepMaps(source *rand.Rand) []overlay.Layer {
	list := someMaps(source)
	shift := func(n int) int { return min(max(n+source.IntN(3)-1, -most), most) }
	for i := range list {
		list[i] = moved(list[i], most/8, xy(-most, -most))
		for k := range list[i].Segs {
			s := &list[i].Segs[k]
			s.A.X, s.B.Y = shift(s.A.X), shift(s.B.Y)
		}
	}
	return list
}

// lattice returns n lines across and n that cross them.
func lattice(n int) overlay.Layer {
	var l overlay.Layer
	for i := range n {
		l = joined(l, line(xy(-1, 2*i), xy(2*n, 2*i)), line(xy(2*i, -1), xy(2*i, 2*n)))
	}
	return l
}

// sheaf returns n long segments that cross one another at fractions, so that there are about n * n / 2 vertices.
func sheaf(n int) overlay.Layer {
	var l overlay.Layer
	step := 2 * most / n
	for i := range n {
		l = joined(l, line(xy(-most, i*step+i*i-most), xy(most, most-i*step-i*i*i)))
	}
	return l
}

// onOneLine returns n segments of one line, each within the one before it.
func onOneLine(n int) overlay.Layer {
	var l overlay.Layer
	for i := range n {
		l = joined(l, line(xy(i, 3*i), xy(2*n-i, 6*n-3*i)))
	}
	return l
}

// apart returns n segments that do not meet.
func apart(n int) overlay.Layer {
	var l overlay.Layer
	for i := range n {
		l = joined(l, line(xy(0, 2*i), xy(1, 2*i+1)))
	}
	return l
}

// alone returns n points.
func alone(n int) overlay.Layer {
	var l overlay.Layer
	for i := range n {
		l.Points = append(l.Points, xy(-i, i%7))
	}
	return l
}

// copied returns maps in memory of their own.
func copied(maps []overlay.Layer) []overlay.Layer {
	var list []overlay.Layer
	for _, m := range maps {
		list = append(list, overlay.Layer{Segs: slices.Clone(m.Segs), Points: slices.Clone(m.Points)})
	}
	return list
}
