package locate_test

import (
	"fmt"
	"math/rand/v2"
	"testing"

	"meresman/api"
	"meresman/arrange"
	"meresman/faces"
	"meresman/frac"
	"meresman/locate"
	"meresman/point"
)

// gridPoints returns the points of the grid about a random chart.
func gridPoints() []api.Point {
	var list []api.Point
	for i := range 34 * 34 {
		list = append(list, xy(i/34-1, i%34-1))
	}
	return list
}

func TestOnce(t *testing.T) { // P10.5
	source := rand.New(rand.NewPCG(10, 8))
	for i := range 40 {
		c := randomChart(source)
		if i%2 == 0 {
			c = steep(source)
			for _, s := range c.segs {
				c.points = append(c.points, s.A, s.B)
			}
		}
		m := newMap(t, c)
		for _, p := range append(gridPoints(), c.points...)[33*source.IntN(20):] {
			face, e := m.Face(p)
			for _, n := range []int{70, 300 + source.IntN(100)} {
				spot, err := m.Find(beyond(p, n))
				expect(t, "the face beyond", fmt.Sprint(spot, err), fmt.Sprint(locate.Spot{Kind: locate.InFace, Index: face}, e))
			}
		}
	}
}

func TestFiner(t *testing.T) { // P10.6
	source := rand.New(rand.NewPCG(10, 9))
	for range 60 {
		c := randomChart(source)
		finer := chart{c.segs, c.points}
		for range 1 + source.IntN(4) {
			more := randomChart(source)
			finer.segs = append(finer.segs, more.segs[:min(len(more.segs), 3)]...)
		}
		l, fine := newMap(t, c), newMap(t, finer)
		home := map[int]locate.Spot{} // for each face of the finer arrangement, where a point of it lies
		for face := range fine.model.outer {
			p, _ := fine.Inside(face)
			spot, e := l.Find(p)
			if spot.Kind == locate.InFace {
				home[face] = spot
			}
			expect(t, "Find of a point in a face", fmt.Sprint(spot.Kind, e), fmt.Sprint(locate.InFace, api.OK))
		}
		for _, p := range gridPoints() {
			face, _ := l.Face(p)
			part, _ := fine.Face(p)
			expect(t, fmt.Sprint("the face of ", p), locate.Spot{Kind: locate.InFace, Index: face}, home[part])
		}
	}
}

func TestScaled(t *testing.T) { // P10.7
	source := rand.New(rand.NewPCG(10, 10))
	for range 100 {
		c := randomChart(source)
		k := []int{1, 2, 3, 1000, most / 64, most / 32}[source.IntN(6)]
		rest := most - 32*k
		by := xy(source.IntN(most+rest)-most, source.IntN(most+rest)-most)
		l, far := newMap(t, c), newMap(t, movedChart(c, k, by))
		for _, p := range gridPoints()[34*source.IntN(30):][:99] {
			if point.Valid(moved(p, k, by)) == api.OK {
				face, e := l.Face(p)
				farFace, farError := far.Face(moved(p, k, by))
				expect(t, fmt.Sprint("Face of ", p), fmt.Sprint(farFace, farError), fmt.Sprint(face, e))
			}
		}
		factor, _ := frac.Of(k, 1)
		for _, p := range somePoints(l.model, source, 3) {
			spot, e := l.Find(p)
			p.X, _ = frac.Mul(p.X, factor)
			p.Y, _ = frac.Mul(p.Y, factor)
			farSpot, farError := far.Find(shifted(p, point.Of(by).X, point.Of(by).Y))
			expect(t, "Find", fmt.Sprint(farSpot, farError), fmt.Sprint(spot, e))
		}
	}
}

func TestSides(t *testing.T) { // P10.8
	source := rand.New(rand.NewPCG(10, 11))
	for i := range 80 {
		c := randomChart(source)
		if i%2 == 0 {
			c = steep(source)
		}
		a := newArr(t, c)
		f := newFaces(t, a)
		l, _ := locate.New(a, f)
		for k, edge := range a.E {
			middle, _ := point.Mid(a.V[edge.A], a.V[edge.B])
			spot, e := l.Find(middle)
			expect(t, "Find", fmt.Sprint(spot, e), fmt.Sprint(locate.Spot{Kind: locate.OnEdge, Index: k}, api.OK))
			checkBeside(t, l, f, middle, 2*k, xy(-edge.Dir.Y, edge.Dir.X))
			checkBeside(t, l, f, middle, 2*k+1, xy(edge.Dir.Y, -edge.Dir.X))
		}
	}
}

// checkBeside checks the face to the left of a half-edge, near to its middle.
func checkBeside(t *testing.T, l *locate.Locator, f faces.Faces, middle point.P, h int, left api.Point) {
	t.Helper()
	for _, exponent := range []int{-200, -400} {
		x, _ := frac.Mul(point.Of(left).X, power(2, exponent))
		y, _ := frac.Mul(point.Of(left).Y, power(2, exponent))
		spot, e := l.Find(shifted(middle, x, y))
		expect(t, "Find beside an edge", fmt.Sprint(spot, e), fmt.Sprint(locate.Spot{Kind: locate.InFace, Index: f.Left[h]}, api.OK))
	}
}

func TestPartition(t *testing.T) { // P10.5: each of the squares that lie side by side has as many points as any other one
	var c chart
	for i := range 4 {
		for k := range 4 {
			c.square(8*i, 8*k, 8)
		}
	}
	m := newMap(t, c)
	counts := map[int]int{}
	for _, p := range gridPoints() {
		face, e := m.Face(p)
		expect(t, "Face", e, api.OK)
		counts[face]++
	}
	expect(t, "the points outside", counts[0], 34*34-32*32)
	for face := 1; face <= 16; face++ {
		expect(t, fmt.Sprint("the points of the face ", face), counts[face], 64)
	}
	arr, _ := arrange.New(nil, []api.Point{xy(0, 0)})
	alone, _ := faces.New(arr)
	l, _ := locate.New(arr, alone)
	face, e := l.Face(xy(0, 0))
	expect(t, "Face of a point alone", fmt.Sprint(face, e), fmt.Sprint(0, api.OK))
}
