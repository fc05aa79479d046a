package locate_test

import (
	"math/rand/v2"

	"meresman/api"
)

// The maps in which points are located.

const most = api.MaxCoord

// chart is the segments and points of an arrangement.
type chart struct {
	segs   []api.Seg
	points []api.Point
}

// line adds the segments from each point to the next one.
func (c *chart) line(points ...api.Point) {
	for i, p := range points[1:] {
		c.segs = append(c.segs, api.Seg{A: points[i], B: p})
	}
}

// square adds the square from (x, y) to (x + size, y + size).
func (c *chart) square(x, y, size int) {
	c.line(xy(x, y), xy(x+size, y), xy(x+size, y+size), xy(x, y+size), xy(x, y))
}

func xy(x, y int) api.Point {
	return api.Point{X: x, Y: y}
}

// smallCharts yields all charts of one to three segments between the points of a grid of 3 x 3; each second one has these points.
func smallCharts(yield func(chart) bool) {
	var points []api.Point
	for i := range 9 {
		points = append(points, xy(i/3, i%3))
	}
	var all []api.Seg
	for i, p := range points {
		for _, q := range points[:i] {
			all = append(all, api.Seg{A: q, B: p})
		}
	}
	for i := range all {
		for k := range i + 1 {
			for l := range k + 1 {
				c := chart{segs: []api.Seg{all[i], all[k], all[l]}}
				if (i+k+l)%2 == 0 {
					c.points = points
				}
				if !yield(c) {
					return
				}
			}
		}
	}
}

// randomChart returns, each second time, a tangle or rings within rings, whose coordinates are from 0 to 31.
func randomChart(source *rand.Rand) chart {
	if source.IntN(2) == 0 {
		return tangle(source)
	}
	var c chart
	rings(&c, source, xy(0, 0), 12+source.IntN(20))
	return c
}

// tangle returns segments and points of a small grid, which often meet or lie above one another.
func tangle(source *rand.Rand) chart {
	size := 3 + source.IntN(5)
	place := func() api.Point { return xy(source.IntN(size), source.IntN(size)) }
	var c chart
	for range source.IntN(16) {
		if s := (api.Seg{A: place(), B: place()}); s.A != s.B {
			c.segs = append(c.segs, s)
		}
	}
	for range source.IntN(5) {
		c.points = append(c.points, place())
	}
	return c
}

// rings adds something that lies from p to (p.X + size, p.Y + size), and perhaps more within or beside it.
func rings(c *chart, source *rand.Rand, p api.Point, size int) {
	x, y, half := p.X, p.Y, size/2
	if size < 4 {
		c.points = append(c.points, xy(x+half, y+size), xy(x+half, y))
		return
	}
	switch source.IntN(6) {
	case 0:
		c.line(xy(x+half, y), xy(x+2*half, y+half), xy(x+half, y+2*half), xy(x, y+half), xy(x+half, y))
		rings(c, source, xy(x+half-half/2+1, y+half-half/2+1), half-2)
	case 1: // a ring with a corner that points inward, before which something lies
		c.line(xy(x, y), xy(x+size, y), xy(x+1, y+half), xy(x+size, y+size), xy(x, y+size), xy(x, y))
		rings(c, source, xy(x+size-size/4, y+half-size/8), size/4)
	case 2:
		c.line(xy(x, y+size), xy(x, y), xy(x+size, y), xy(x+size, y+size-1))
		rings(c, source, xy(x+1, y+1), size-2)
	case 3:
		c.square(x, y, size)
		rings(c, source, xy(x+1, y+1), size-2)
	default:
		c.square(x, y, size)
		for _, quarter := range [3]api.Point{xy(x+1, y+half+1), xy(x+half+1, y+half+1), xy(x+half+1, y+1)} {
			rings(c, source, quarter, half-2)
		}
	}
}

// moved returns a point of which all coordinates are multiplied by k, and then shifted by those of another one.
func moved(p api.Point, k int, by api.Point) api.Point {
	return xy(p.X*k+by.X, p.Y*k+by.Y)
}

// movedChart returns a chart in which all points are moved.
func movedChart(c chart, k int, by api.Point) chart {
	var m chart
	for _, s := range c.segs {
		m.segs = append(m.segs, api.Seg{A: moved(s.A, k, by), B: moved(s.B, k, by)})
	}
	for _, p := range c.points {
		m.points = append(m.points, moved(p, k, by))
	}
	return m
}

// steep returns a chart with coordinates up to the limits, in which ends that would meet miss each other by little.
func steep(source *rand.Rand) chart {
	c := movedChart(tangle(source), most/4, xy(-most, -most))
	shift := func(n int) int { return min(max(n+source.IntN(3)-1, -most), most) }
	for i := range c.segs {
		c.segs[i].A.X, c.segs[i].B.Y = shift(c.segs[i].A.X), shift(c.segs[i].B.Y)
	}
	return c
}

// nested returns n squares, each within the one before it.
func nested(n int) chart {
	var c chart
	for i := range n {
		c.square(3*i, 3*i, 6*(n-i))
	}
	return c
}

// lattice returns n lines across and n that cross them.
func lattice(n int) chart {
	var c chart
	for i := range n {
		c.line(xy(-1, 2*i), xy(2*n, 2*i))
		c.line(xy(2*i, -1), xy(2*i, 2*n))
	}
	return c
}

// sheaf returns n long segments that cross one another at fractions, so that there are about n * n / 2 vertices.
func sheaf(n int) chart {
	var c chart
	step := 2 * most / n
	for i := range n {
		c.line(xy(-most, i*step+i*i-most), xy(most, most-i*step-i*i*i))
	}
	return c
}

// slopes returns n long segments above one another, and between them short ones, the end of each at another X.
func slopes(n int) chart {
	var c chart
	step := most / n
	for i := range n {
		c.line(xy(i-most, 2*i*step-most), xy(most-i, 2*i*step-most+1))
		c.line(xy(i*(step/2)-most/2, 2*i*step-most+5), xy(i*(step/2)-most/2+3, 2*i*step-most+step/5))
	}
	return c
}
