package faces_test

import (
	"math/rand/v2"

	"meresman/api"
)

// The maps of which the faces are tested.

const most = api.MaxCoord

// chart is the segments and points of an arrangement.
type chart struct {
	segs   []api.Seg
	points []api.Point
}

// line adds the segments from each point to the next one.
func (c *chart) line(points ...api.Point) {
	for i, p := range points[1:] {
		c.segs = append(c.segs, api.Seg{A: points[i], B: p})
	}
}

// ring adds the segments from each point to the next one, and from the last one to the first one.
func (c *chart) ring(points ...api.Point) {
	c.line(append(points, points[0])...)
}

// square adds the square from (x, y) to (x + size, y + size).
func (c *chart) square(x, y, size int) {
	c.ring(xy(x, y), xy(x+size, y), xy(x+size, y+size), xy(x, y+size))
}

func xy(x, y int) api.Point {
	return api.Point{X: x, Y: y}
}

// smallCharts yields all charts of one to three segments between the points of a grid of 3 x 3; each second one has these points.
func smallCharts(yield func(chart) bool) {
	var all []api.Seg
	var points []api.Point
	for i := range 9 {
		points = append(points, xy(i/3, i%3))
		for k := range i {
			all = append(all, api.Seg{A: xy(i/3, i%3), B: xy(k/3, k%3)})
		}
	}
	count := 0
	for i := range all {
		for k := range i + 1 {
			for l := range k + 1 {
				c := chart{segs: []api.Seg{all[i], all[k], all[l]}}
				if count++; count%2 == 0 {
					c.points = points
				}
				if !yield(c) {
					return
				}
			}
		}
	}
}

// tangle returns a few segments and points of a small grid, which often meet or lie above one another.
func tangle(source *rand.Rand) chart {
	size := 3 + source.IntN(5)
	place := func() api.Point { return xy(source.IntN(size), source.IntN(size)) }
	var c chart
	for range source.IntN(18) {
		if s := (api.Seg{A: place(), B: place()}); s.A != s.B {
			c.segs = append(c.segs, s)
		}
	}
	for range source.IntN(6) {
		c.points = append(c.points, place())
	}
	return c
}

// islands returns rings within rings, with points and open lines between them.
func islands(source *rand.Rand) chart {
	var c chart
	addIslands(&c, source, xy(0, 0), 14+source.IntN(19))
	return c
}

// addIslands adds something that lies from p to (p.X + size, p.Y + size), and perhaps more within.
func addIslands(c *chart, source *rand.Rand, p api.Point, size int) {
	x, y, half := p.X, p.Y, size/2
	if size < 4 || source.IntN(9) == 0 {
		c.points = append(c.points, xy(x+half, y+half), xy(x+half, y))
		return
	}
	switch source.IntN(5) {
	case 0:
		c.ring(xy(x+half, y), xy(x+2*half, y+half), xy(x+half, y+2*half), xy(x, y+half))
		addIslands(c, source, xy(x+half-half/2+1, y+half-half/2+1), half-2)
	case 1: // a ring with a corner that points inward, in front of which something lies
		c.ring(xy(x, y), xy(x+size, y), xy(x+1, y+half), xy(x+size, y+size), xy(x, y+size))
		addIslands(c, source, xy(x+size-size/4, y+half-size/8), size/4)
	case 2:
		c.line(xy(x, y), xy(x, y+size), xy(x+size, y+size), xy(x+size, y+1))
		addIslands(c, source, xy(x+1, y+1), size-2)
	default:
		c.square(x, y, size)
		for _, quarter := range []api.Point{xy(x+1, y+1), xy(x+half+1, y+1), xy(x+1, y+half+1), xy(x+half+1, y+half+1)} {
			if source.IntN(3) > 0 {
				addIslands(c, source, quarter, half-2)
			}
		}
	}
}

// moved returns a chart of which all coordinates are multiplied by scale, and then shifted by x and y.
func moved(c chart, scale, x, y int) chart {
	place := func(p api.Point) api.Point { return xy(p.X*scale+x, p.Y*scale+y) }
	var m chart
	for _, s := range c.segs {
		m.segs = append(m.segs, api.Seg{A: place(s.A), B: place(s.B)})
	}
	for _, p := range c.points {
		m.points = append(m.points, place(p))
	}
	return m
}

// nested returns n squares, each within the one before it, with a point between each and the next one.
func nested(n int) chart {
	var c chart
	for i := range n {
		c.square(3*i, 3*i, 6*(n-i))
		c.points = append(c.points, xy(3*i+1, 3*n))
	}
	return c
}

// lattice returns n lines across and n that cross them, with n - 1 points beside them.
func lattice(n int) chart {
	var c chart
	for i := range n {
		c.line(xy(-1, 2*i), xy(2*n, 2*i))
		c.line(xy(2*i, -1), xy(2*i, 2*n))
	}
	for i := range n - 1 {
		c.points = append(c.points, xy(2*i+1, 1))
	}
	return c
}

// pencil returns n segments through (0, 0).
func pencil(n int) chart {
	var c chart
	for i := range n {
		c.line(xy(i-n, -1-i), xy(n-i, 1+i))
	}
	return c
}

// slopes returns n long segments above one another, which two others cross, with a point above each of them.
func slopes(n int) chart {
	var c chart
	c.line(xy(-most/2, -most), xy(7-most/2, most))
	c.line(xy(most/2+7, -most), xy(most/2, most))
	step := most / n
	for i := range n {
		c.line(xy(i-most, i*step-most/2), xy(most-3*i, i*step-most/2+1))
		c.points = append(c.points, xy(i*3-700, i*step-most/2+2))
	}
	return c
}
