package arrange_test

import (
	"math/big"
	"slices"
	"strconv"
	"strings"
	"testing"

	"meresman/api"
	"meresman/arrange"
	"meresman/frac"
	"meresman/point"
)

// The model of this file follows the words of the chapter with math/big, from the equations of lines, pair by pair.

// rats is a point whose coordinates are numbers of math/big.
type rats [2]*big.Rat

// model is an arrangement.
type model struct {
	v []rats
	e []modelEdge
}

type modelEdge struct {
	a, b int
	of   []int
	dir  api.Point
}

// modelOf returns the arrangement of valid segments and points.
func modelOf(s []api.Seg, points []api.Point) model {
	var m model
	for _, p := range points {
		m.v = append(m.v, gridRats(p))
	}
	for i, t := range s {
		m.v = append(m.v, gridRats(t.A), gridRats(t.B))
		for _, u := range s[:i] {
			m.v = append(m.v, common(gridRats(t.A), gridRats(t.B), gridRats(u.A), gridRats(u.B))...)
		}
	}
	slices.SortFunc(m.v, compareRats)
	m.v = slices.CompactFunc(m.v, func(p, q rats) bool { return compareRats(p, q) == 0 })
	for a := range m.v {
		for b := range m.v[:a] {
			if of := m.segmentsOf(s, b, a); of != nil {
				m.e = append(m.e, modelEdge{b, a, of, lowest(m.v[b], m.v[a])})
			}
		}
	}
	slices.SortFunc(m.e, func(e, f modelEdge) int { return slices.Compare([]int{e.a, e.b}, []int{f.a, f.b}) })
	return m
}

// segmentsOf returns the segments on which two vertices lie, if there is no other vertex between them.
func (m model) segmentsOf(s []api.Seg, a, b int) []int {
	var of []int
	for i, t := range s {
		if onSegment(gridRats(t.A), gridRats(t.B), m.v[a]) && onSegment(gridRats(t.A), gridRats(t.B), m.v[b]) {
			of = append(of, i)
		}
	}
	for c := a + 1; of != nil && c < b; c++ {
		if onSegment(m.v[a], m.v[b], m.v[c]) {
			return nil
		}
	}
	return of
}

// around returns the half-edges that begin at a vertex, in their order.
func (m model) around(v int) []int {
	var list []int
	turns := map[int]*big.Rat{}
	for i, e := range m.e {
		if e.a == v {
			list = append(list, 2*i)
			turns[2*i] = turn(e.dir.X, e.dir.Y)
		}
		if e.b == v {
			list = append(list, 2*i+1)
			turns[2*i+1] = turn(-e.dir.X, -e.dir.Y)
		}
	}
	slices.SortFunc(list, func(g, h int) int { return turns[g].Cmp(turns[h]) })
	return list
}

func (m model) text() string {
	var texts []string
	for _, p := range m.v {
		texts = append(texts, ratsText(p))
	}
	text := strings.Join(texts, ", ")
	for _, e := range m.e {
		text += edgeText(e.a, e.b, e.of, e.dir)
	}
	return text
}

// turn returns a number that grows with the angle of a direction, and by 1 with each quarter of a turn.
func turn(x, y int) *big.Rat {
	quarter := 0
	for x <= 0 || y < 0 {
		x, y = y, -x
		quarter++
	}
	part := big.NewRat(int64(y), int64(x)+int64(y))
	return part.Add(part, big.NewRat(int64(quarter), 1))
}

// lowest returns the direction from a to b.
func lowest(a, b rats) api.Point {
	x, y := new(big.Rat).Sub(b[0], a[0]), new(big.Rat).Sub(b[1], a[1])
	scale := new(big.Rat).SetInt(new(big.Int).Mul(x.Denom(), y.Denom()))
	x.Mul(x, scale)
	y.Mul(y, scale)
	divisor := new(big.Int).GCD(nil, nil, new(big.Int).Abs(x.Num()), new(big.Int).Abs(y.Num()))
	return xy(int(new(big.Int).Quo(x.Num(), divisor).Int64()), int(new(big.Int).Quo(y.Num(), divisor).Int64()))
}

// common returns the point that the segments from a to b and from c to d have in common, or the ends of all these points, or nothing.
func common(a, b, c, d rats) []rats {
	way, other, between := minus(b, a), minus(d, c), minus(c, a)
	if both := product(way, other); both.Sign() != 0 {
		// a + u way = c + v other
		u, v := new(big.Rat).Quo(product(between, other), both), new(big.Rat).Quo(product(between, way), both)
		if isPart(u) && isPart(v) {
			return []rats{along(a, way, u)}
		}
		return nil
	}
	var list []rats
	for _, p := range []rats{a, b, c, d} {
		known := slices.ContainsFunc(list, func(q rats) bool { return compareRats(p, q) == 0 })
		if !known && onSegment(a, b, p) && onSegment(c, d, p) {
			list = append(list, p)
		}
	}
	return list
}

// onSegment reports whether p is a + u (b - a) for some u from 0 to 1.
func onSegment(a, b, p rats) bool {
	way := minus(b, a)
	for i := range way {
		if way[i].Sign() != 0 {
			u := new(big.Rat).Sub(p[i], a[i])
			u.Quo(u, way[i])
			return isPart(u) && compareRats(along(a, way, u), p) == 0
		}
	}
	return compareRats(a, p) == 0
}

func isPart(u *big.Rat) bool {
	return u.Sign() >= 0 && u.Cmp(big.NewRat(1, 1)) <= 0
}

// along returns a + u way.
func along(a, way rats, u *big.Rat) rats {
	var p rats
	for i := range p {
		p[i] = new(big.Rat).Mul(way[i], u)
		p[i].Add(p[i], a[i])
	}
	return p
}

func minus(a, b rats) rats {
	return rats{new(big.Rat).Sub(a[0], b[0]), new(big.Rat).Sub(a[1], b[1])}
}

// product returns the number that is positive, if b is to the left of a, and 0, if both have the same line.
func product(a, b rats) *big.Rat {
	left, right := new(big.Rat).Mul(a[0], b[1]), new(big.Rat).Mul(a[1], b[0])
	return left.Sub(left, right)
}

func compareRats(a, b rats) int {
	if order := a[0].Cmp(b[0]); order != 0 {
		return order
	}
	return a[1].Cmp(b[1])
}

func gridRats(p api.Point) rats {
	return rats{big.NewRat(int64(p.X), 1), big.NewRat(int64(p.Y), 1)}
}

func ratsOf(p point.P) rats {
	x, _ := new(big.Rat).SetString(p.X.String())
	y, _ := new(big.Rat).SetString(p.Y.String())
	return rats{x, y}
}

func of(t *testing.T, p rats) point.P {
	t.Helper()
	return at(t, p[0].RatString(), p[1].RatString())
}

func at(t *testing.T, x, y string) point.P {
	t.Helper()
	a, e := frac.Parse(x)
	b, e2 := frac.Parse(y)
	if e != api.OK || e2 != api.OK {
		t.Fatalf("frac.Parse(%.60s): %d, frac.Parse(%.60s): %d", x, e, y, e2)
	}
	return point.P{X: a, Y: b}
}

func ratsText(p rats) string {
	return p[0].RatString() + " " + p[1].RatString()
}

// arrText returns the vertices and edges of an arrangement.
func arrText(a arrange.Arr) string {
	text := verticesText(a.V)
	for _, e := range a.E {
		text += edgeText(e.A, e.B, e.Of, e.Dir)
	}
	return text
}

func verticesText(list []point.P) string {
	var texts []string
	for _, p := range list {
		texts = append(texts, p.X.String()+" "+p.Y.String())
	}
	return strings.Join(texts, ", ")
}

// edgeText returns "; a b: of, dir".
func edgeText(a, b int, of []int, dir api.Point) string {
	return "; " + intsText(a, b) + ": " + intsText(of...) + ", " + intsText(dir.X, dir.Y)
}

func intsText(list ...int) string {
	var texts []string
	for _, n := range list {
		texts = append(texts, strconv.Itoa(n))
	}
	return strings.Join(texts, " ")
}
