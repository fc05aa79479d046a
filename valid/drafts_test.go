package valid_test

import (
	"fmt"
	"math"
	"math/big"
	"math/rand/v2"
	"slices"
	"testing"

	"meresman/api"
	"meresman/arrange"
	"meresman/faces"
	"meresman/frac"
	"meresman/point"
	"meresman/valid"
)

// The drafts that are checked.

const most = api.MaxCoord

// chart is the segments and points of an arrangement.
type chart struct {
	segs   []api.Seg
	points []api.Point
}

// line adds the segments from each point to the next one.
func (c *chart) line(points ...api.Point) {
	for i, p := range points[1:] {
		c.segs = append(c.segs, api.Seg{A: points[i], B: p})
	}
}

// square adds the square from (x, y) to (x + size, y + size).
func (c *chart) square(x, y, size int) {
	c.line(xy(x, y), xy(x+size, y), xy(x+size, y+size), xy(x, y+size), xy(x, y))
}

// draft returns the draft of the arrangement.
func (c chart) draft(t testing.TB) valid.Draft {
	t.Helper()
	a, e := arrange.New(c.segs, c.points)
	expect(t, "arrange.New", e, api.OK)
	f, e := faces.New(a)
	expect(t, "faces.New", e, api.OK)
	return valid.Of(a, f)
}

func xy(x, y int) api.Point {
	return api.Point{X: x, Y: y}
}

// at returns the point with coordinates of these texts.
func at(t testing.TB, x, y string) point.P {
	t.Helper()
	a, e := frac.Parse(x)
	b, e2 := frac.Parse(y)
	if e != api.OK || e2 != api.OK {
		t.Fatalf("frac.Parse(%.60s): %d, frac.Parse(%.60s): %d", x, e, y, e2)
	}
	return point.P{X: a, Y: b}
}

// over returns the point (x / n, y / n).
func over(x, y, n int) point.P {
	a, _ := frac.Of(x, n)
	b, _ := frac.Of(y, n)
	return point.P{X: a, Y: b}
}

func ofGrid(points ...api.Point) []point.P {
	var list []point.P
	for _, p := range points {
		list = append(list, point.Of(p))
	}
	return list
}

// gridPoints returns the points from (0, 0) to (n - 1, n - 1) in order.
func gridPoints(n int) []point.P {
	var list []point.P
	for i := range n * n {
		list = append(list, point.Of(xy(i/n, i%n)))
	}
	return list
}

// pairs returns all proper edges between n vertices in order.
func pairs(n int) [][2]int {
	var list [][2]int
	for a := range n {
		for b := a + 1; b < n; b++ {
			list = append(list, [2]int{a, b})
		}
	}
	return list
}

// tangle returns a few segments and points of a small grid, which often meet or lie above one another.
func tangle(source *rand.Rand) chart {
	size := 3 + source.IntN(5)
	place := func() api.Point { return xy(source.IntN(size), source.IntN(size)) }
	var c chart
	for range source.IntN(14) {
		if s := (api.Seg{A: place(), B: place()}); s.A != s.B {
			c.segs = append(c.segs, s)
		}
	}
	for range source.IntN(6) {
		c.points = append(c.points, place())
	}
	return c
}

// islands returns rings within rings, with points and open lines between them.
func islands(source *rand.Rand) chart {
	var c chart
	addIslands(&c, source, xy(0, 0), 12+source.IntN(12))
	return c
}

// addIslands adds something that lies from p to (p.X + size, p.Y + size), and perhaps more within.
func addIslands(c *chart, source *rand.Rand, p api.Point, size int) {
	x, y, half := p.X, p.Y, size/2
	switch {
	case size < 4 || source.IntN(9) == 0:
		c.points = append(c.points, xy(x+half, y+half), xy(x+half, y))
	case source.IntN(4) == 0:
		c.line(xy(x+half, y), xy(x+2*half, y+half), xy(x+half, y+2*half), xy(x, y+half), xy(x+half, y))
		addIslands(c, source, xy(x+half-half/2+1, y+half-half/2+1), half-2)
	case source.IntN(4) == 0:
		c.line(xy(x, y), xy(x, y+size), xy(x+size, y+size), xy(x+size, y+1))
		addIslands(c, source, xy(x+1, y+1), size-2)
	default:
		c.square(x, y, size)
		for _, quarter := range []api.Point{xy(x+1, y+1), xy(x+half+1, y+1), xy(x+1, y+half+1), xy(x+half+1, y+half+1)} {
			if source.IntN(3) > 0 {
				addIslands(c, source, quarter, half-2)
			}
		}
	}
}

// scatter returns vertices with small fractions in order, and edges between them, which often cross.
func scatter(source *rand.Rand) valid.Draft {
	size := 2 + source.IntN(4)
	var d valid.Draft
	for range 2 + source.IntN(8) {
		d.V = append(d.V, over(source.IntN(6*size)-2*size, source.IntN(6*size)-2*size, 1+source.IntN(size)))
	}
	slices.SortFunc(d.V, point.Compare)
	d.V = slices.CompactFunc(d.V, func(p, q point.P) bool { return point.Compare(p, q) == 0 })
	all := pairs(len(d.V))
	source.Shuffle(len(all), func(i, k int) { all[i], all[k] = all[k], all[i] })
	d.E = all[:source.IntN(min(len(all), 3*len(d.V))+1)]
	sortEdges(d.E)
	return d
}

func sortEdges(list [][2]int) {
	slices.SortFunc(list, func(e, f [2]int) int { return slices.Compare(e[:], f[:]) })
}

// planar returns the draft without the edges that the model complains about, with the faces that it should have.
func planar(d valid.Draft) valid.Draft {
	for {
		defect := crossing(d)
		if defect.Kind == valid.None {
			return completed(d)
		}
		d.E = slices.Delete(d.E, defect.Index, defect.Index+1)
	}
}

// someDraft returns a draft without a defect.
func someDraft(t testing.TB, source *rand.Rand) valid.Draft {
	t.Helper()
	switch source.IntN(3) {
	case 0:
		return tangle(source).draft(t)
	case 1:
		return islands(source).draft(t)
	default:
		return planar(scatter(source))
	}
}

// clone returns a copy that shares no memory.
func clone(d valid.Draft) valid.Draft {
	lists := func(all [][]int) [][]int {
		var copies [][]int
		for _, list := range all {
			copies = append(copies, slices.Clone(list))
		}
		return copies
	}
	return valid.Draft{V: slices.Clone(d.V), E: slices.Clone(d.E), Next: slices.Clone(d.Next), Left: slices.Clone(d.Left),
		Outer: slices.Clone(d.Outer), Inner: lists(d.Inner), Alone: lists(d.Alone)}
}

// changed returns a copy of a draft in which something is different, most often.
func changed(source *rand.Rand, d valid.Draft) valid.Draft {
	d = clone(d)
	switch source.IntN(8) {
	case 0:
		d.V = changedList(source, d.V, func(p point.P) point.P {
			return []point.P{over(source.IntN(9)-1, source.IntN(9)-1, 1+source.IntN(3)), {X: p.Y, Y: p.X}, point.Of(xy(most+1, 0))}[source.IntN(3)]
		})
	case 1:
		d.E = changedList(source, d.E, func(e [2]int) [2]int {
			return [][2]int{{e[1], e[0]}, {e[0], e[0]}, {e[0], e[1] + 1}, {e[0] - 1, e[1]}, {someInt(source), someInt(source)}}[source.IntN(5)]
		})
	case 2: // which the faces do not know of
		if all := pairs(len(d.V)); len(all) > 0 {
			d.E = append(d.E, all[source.IntN(len(all))])
			sortEdges(d.E)
			d.E = slices.Compact(d.E)
		}
	case 3:
		d.Next = changedInts(source, d.Next)
	case 4:
		d.Left = changedInts(source, d.Left)
	case 5:
		d.Outer = changedInts(source, d.Outer)
	case 6:
		d.Inner = changedList(source, d.Inner, func(list []int) []int { return changedInts(source, list) })
	default:
		d.Alone = changedList(source, d.Alone, func(list []int) []int { return changedInts(source, list) })
	}
	return d
}

func changedInts(source *rand.Rand, list []int) []int {
	return changedList(source, list, func(int) int { return someInt(source) })
}

// changedList returns a list with an element more, less, twice or changed, or with two that have changed places.
func changedList[T any](source *rand.Rand, list []T, change func(T) T) []T {
	var none T
	if len(list) == 0 {
		return append(list, change(none))
	}
	i, k := source.IntN(len(list)), source.IntN(len(list))
	switch source.IntN(6) {
	case 0:
		return slices.Delete(list, i, i+1)
	case 1:
		return slices.Insert(list, i, list[k])
	case 2:
		return append(list, change(none))
	case 3:
		list[i], list[k] = list[k], list[i]
	default:
		list[i] = change(list[i])
	}
	return list
}

func someInt(source *rand.Rand) int {
	return []int{source.IntN(12) - 1, source.IntN(40) - 2, -1, math.MaxInt, math.MinInt}[source.IntN(5)]
}

// moved returns a draft of which all coordinates are multiplied by scale, and then shifted by x and y.
func moved(t testing.TB, d valid.Draft, scale, x, y int) valid.Draft {
	t.Helper()
	d = clone(d)
	for i, p := range d.V {
		q := ratOf(p)
		q.x.Mul(q.x, big.NewRat(int64(scale), 1)).Add(q.x, big.NewRat(int64(x), 1))
		q.y.Mul(q.y, big.NewRat(int64(scale), 1)).Add(q.y, big.NewRat(int64(y), 1))
		d.V[i] = at(t, q.x.RatString(), q.y.RatString())
	}
	return d
}

// nested returns n squares, each within the one before it, with a point between each and the next one.
func nested(n int) chart {
	var c chart
	for i := range n {
		c.square(3*i, 3*i, 6*(n-i))
		c.points = append(c.points, xy(3*i+1, 3*n))
	}
	return c
}

// lattice returns n lines across and n that cross them, with n - 1 points beside them.
func lattice(n int) chart {
	var c chart
	for i := range n {
		c.line(xy(-1, 2*i), xy(2*n, 2*i))
		c.line(xy(2*i, -1), xy(2*i, 2*n))
	}
	for i := range n - 1 {
		c.points = append(c.points, xy(2*i+1, 1))
	}
	return c
}

// fan returns n long segments, each of which crosses all others at a point of its own.
func fan(n int) chart {
	var c chart
	for i := range n {
		c.line(xy(-i*i-most/4, 1+i), xy(most/4, n-2*i*i*i))
	}
	return c
}

// pencil returns n segments through (0, 0).
func pencil(n int) chart {
	var c chart
	for i := range n {
		c.line(xy(i-n, -1-i), xy(n-i, 1+i))
	}
	return c
}

// slopes returns n long segments above one another, which two others cross, with a point above each of them.
func slopes(n int) chart {
	var c chart
	c.line(xy(-most/2, -most), xy(7-most/2, most))
	c.line(xy(most/2+7, -most), xy(most/2, most))
	step := most / n
	for i := range n {
		c.line(xy(i-most, i*step-most/2), xy(most-3*i, i*step-most/2+1))
		c.points = append(c.points, xy(i*3-700, i*step-most/2+2))
	}
	return c
}

// expect reports a result that is not the expected one.
func expect[T comparable](t testing.TB, name string, got, want T) {
	t.Helper()
	if got != want {
		t.Fatalf("%.300s: %v, want %v", name, got, want)
	}
}

// text returns a draft as a text.
func text(d valid.Draft) string {
	s := ""
	for _, p := range d.V {
		s += p.X.String() + " " + p.Y.String() + ", "
	}
	return s + fmt.Sprintf("%v %v %v %v %v %v", d.E, d.Next, d.Left, d.Outer, d.Inner, d.Alone)
}
