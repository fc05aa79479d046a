package snap_test

import (
	"fmt"
	"math/big"
	"math/rand/v2"
	"slices"
	"strings"
	"testing"

	"meresman/api"
	"meresman/frac"
	"meresman/point"
	"meresman/snap"
)

// The drawings that are examined.

const most = api.MaxCoord

func xy(x, y int) api.Point {
	return api.Point{X: x, Y: y}
}

// at returns the point with coordinates of these texts.
func at(t testing.TB, x, y string) point.P {
	t.Helper()
	a, e := frac.Parse(x)
	b, e2 := frac.Parse(y)
	if e != api.OK || e2 != api.OK {
		t.Fatalf("frac.Parse(%.60s): %d, frac.Parse(%.60s): %d", x, e, y, e2)
	}
	return point.P{X: a, Y: b}
}

// over returns the point (x / n, y / n).
func over(x, y, n int) point.P {
	a, _ := frac.Of(x, n)
	b, _ := frac.Of(y, n)
	return point.P{X: a, Y: b}
}

func ofGrid(points ...api.Point) []point.P {
	var list []point.P
	for _, p := range points {
		list = append(list, point.Of(p))
	}
	return list
}

// points returns the points with the coordinates of a text, such as "0 1, 1/2 -3".
func points(t testing.TB, s string) []point.P {
	t.Helper()
	var list []point.P
	for part := range strings.SplitSeq(s, ", ") {
		x, y, _ := strings.Cut(part, " ")
		list = append(list, at(t, x, y))
	}
	return list
}

// drawing returns the drawing of vertices, as for points, and edges.
func drawing(t testing.TB, vertices string, edges ...[2]int) snap.Drawing {
	t.Helper()
	return snap.Drawing{V: points(t, vertices), E: edges}
}

// clone returns a copy that shares no memory.
func clone(d snap.Drawing) snap.Drawing {
	return snap.Drawing{V: slices.Clone(d.V), E: slices.Clone(d.E)}
}

func sortEdges(list [][2]int) {
	slices.SortFunc(list, func(e, f [2]int) int { return slices.Compare(e[:], f[:]) })
}

// pairs returns all edges between n vertices, in order.
func pairs(n int) [][2]int {
	var list [][2]int
	for a := range n {
		for b := a + 1; b < n; b++ {
			list = append(list, [2]int{a, b})
		}
	}
	return list
}

// places is a way to choose points.
type places func(source *rand.Rand) point.P

// grid returns points with few coordinates, which often lie on one line.
func grid(source *rand.Rand) point.P {
	return over(source.IntN(5), source.IntN(5), 1)
}

// halves returns points with small fractions.
func halves(source *rand.Rand) point.P {
	return over(source.IntN(25)-12, source.IntN(25)-12, 1+source.IntN(4))
}

// tiny returns points close to (0, 0), or to another corner of its square.
func tiny(source *rand.Rand) point.P {
	return over(source.IntN(80)-8, source.IntN(80)-8, 64)
}

// tight returns points that are so close together that only their fractions tell them apart.
func tight(source *rand.Rand) point.P {
	p := over(source.IntN(7)-3, source.IntN(7)-3, 1<<61)
	if source.IntN(3) == 0 {
		p = point.Of(xy([]int{0, most, -most, 1, -1}[source.IntN(5)], source.IntN(3)-1))
	}
	return p
}

// far returns points close to a few points up to the limits, which differ by little or nothing.
func far(source *rand.Rand) point.P {
	number := func() frac.Frac {
		n := big.NewRat(int64(source.IntN(5)-2)*(most/2), 1)
		tail := new(big.Rat).SetFrac(big.NewInt(source.Int64N(5)-2), new(big.Int).SetUint64(1<<63+source.Uint64N(3)))
		switch source.IntN(5) {
		case 0:
			n.Add(n, tail)
		case 1:
			n.Add(n, big.NewRat(source.Int64N(7)-3, 2))
		case 2:
			n.Add(n, big.NewRat(source.Int64N(7)-3, 1<<60)).Add(n, big.NewRat(1, 2))
		case 3:
			n.Add(n, big.NewRat(source.Int64N(7)-3, 1))
		}
		limit := big.NewRat(most, 1)
		if n.Cmp(limit) > 0 {
			n = limit
		} else if limit.Neg(limit); n.Cmp(limit) < 0 {
			n = limit
		}
		x, _ := frac.Parse(n.RatString())
		return x
	}
	return point.P{X: number(), Y: number()}
}

// different returns at most n different points, in any order.
func different(source *rand.Rand, n int, choose places) []point.P {
	var list []point.P
	for range n {
		p := choose(source)
		if !slices.ContainsFunc(list, func(q point.P) bool { return point.Compare(p, q) == 0 }) {
			list = append(list, p)
		}
	}
	return list
}

// tangle returns a drawing whose edges often cross.
func tangle(source *rand.Rand, choose places) snap.Drawing {
	d := snap.Drawing{V: different(source, 2+source.IntN(7), choose)}
	all := pairs(len(d.V))
	source.Shuffle(len(all), func(i, k int) { all[i], all[k] = all[k], all[i] })
	d.E = all[:source.IntN(min(len(all), len(d.V))+1)]
	sortEdges(d.E)
	return d
}

// planar returns a valid drawing of at most n vertices, with at most the given number of edges.
func planar(source *rand.Rand, choose places, n, edges int) snap.Drawing {
	d := snap.Drawing{V: different(source, n, choose)}
	v := spotsOf(d.V...)
	all := pairs(len(v))
	source.Shuffle(len(all), func(i, k int) { all[i], all[k] = all[k], all[i] })
	for _, e := range all {
		if len(d.E) < edges && isClear(v, e) && !slices.ContainsFunc(d.E, func(f [2]int) bool { return cross(v, e, f) }) {
			d.E = append(d.E, e)
		}
	}
	sortEdges(d.E)
	return d
}

// anyPlaces returns one of the ways to choose points.
func anyPlaces(source *rand.Rand) places {
	return []places{grid, halves, tiny, tight, far}[source.IntN(5)]
}

// anyPlanar returns a valid drawing of some kind, and how its places were chosen.
func anyPlanar(source *rand.Rand) (snap.Drawing, places) {
	choose := anyPlaces(source)
	return planar(source, choose, 1+source.IntN(9), source.IntN(16)), choose
}

// multiplied returns a point of which both coordinates are multiplied by k.
func multiplied(p point.P, k int) point.P {
	factor, _ := frac.Of(k, 1)
	x, _ := frac.Mul(p.X, factor)
	y, _ := frac.Mul(p.Y, factor)
	return point.P{X: x, Y: y}
}

// lattice returns a drawing of n * n vertices, each connected with those beside it and above it, and some with one across, too.
func lattice(n, across int, place func(x, y int) point.P) snap.Drawing {
	var d snap.Drawing
	for i := range n * n {
		x, y := i/n, i%n
		d.V = append(d.V, place(x, y))
		if y+1 < n {
			d.E = append(d.E, [2]int{i, i + 1})
		}
		if x+1 < n {
			d.E = append(d.E, [2]int{i, i + n})
		}
		if across > 0 && x+1 < n && y+1 < n {
			d.E = append(d.E, [2]int{i, i + n + 1})
			across--
		}
	}
	return d
}

// expect reports a result that is not the expected one.
func expect[T comparable](t testing.TB, name string, got, want T) {
	t.Helper()
	if got != want {
		t.Fatalf("%.600s: %v, want %v", name, got, want)
	}
}

func pointText(p point.P) string {
	return p.X.String() + " " + p.Y.String()
}

// text returns a drawing as a text.
func text(d snap.Drawing) string {
	var list []string
	for _, p := range d.V {
		list = append(list, pointText(p))
	}
	return strings.Join(list, ", ") + fmt.Sprint(" ", d.E)
}
