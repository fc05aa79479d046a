package locate_test

import (
	"cmp"
	"fmt"
	"math"
	"math/rand/v2"
	"slices"
	"testing"

	"meresman/api"
	"meresman/arrange"
	"meresman/faces"
	"meresman/frac"
	"meresman/locate"
	"meresman/point"
)

// Expected results are those of the model, or were found by hand with pencil and paper.

func TestExamples(t *testing.T) {
	var c chart
	c.square(0, 0, 4)
	l := newMap(t, c)
	for p, want := range map[api.Point]int{xy(0, 0): 1, xy(0, 2): 1, xy(4, 0): 0, xy(4, 2): 0, xy(0, 4): 0, xy(2, 2): 1} {
		face, e := l.Face(p)
		expect(t, fmt.Sprint("Face of ", p), fmt.Sprint(face, e), fmt.Sprint(want, api.OK))
	}
}

func TestKinds(t *testing.T) {
	expect(t, "the kinds", fmt.Sprint(locate.AtVertex, locate.OnEdge, locate.InFace), "0 1 2")
}

func TestNew(t *testing.T) { // P10.1
	var c, d chart
	c.square(0, 0, 8)
	c.line(xy(2, 2), xy(3, 3))
	c.points = []api.Point{xy(5, 5), xy(9, 9)}
	d.square(7, -9, most-7)
	a, b := newArr(t, c), newArr(t, d)
	f, g := newFaces(t, a), newFaces(t, b)
	for _, pair := range []struct {
		a  arrange.Arr
		f  faces.Faces
		ok bool
	}{
		{a, f, true}, {b, g, true}, {a, g, false}, {b, f, false}, {a, faces.Faces{}, false}, {arrange.Arr{}, faces.Faces{}, false},
		{arrange.Arr{}, newFaces(t, arrange.Arr{}), true}, {arrange.Arr{}, f, false}, {a, newFaces(t, arrange.Arr{}), false},
		{newArr(t, movedChart(c, 5, xy(-30, 9))), f, true}, // which has the same faces
		{arrange.Arr{}, faces.Faces{Next: []int{}, Left: []int{}, Outer: []int{-1}, Inner: [][]int{{}}, Alone: [][]int{{}}}, true},
	} {
		l, e := locate.New(pair.a, pair.f)
		want := api.ErrArg
		if pair.ok {
			want = api.OK
		}
		expect(t, fmt.Sprint("New with the faces ", pair.f), fmt.Sprint(l != nil, e), fmt.Sprint(pair.ok, want))
	}
	for i, change := range []func(f *faces.Faces){
		func(f *faces.Faces) { f.Next[0], f.Next[1] = f.Next[1], f.Next[0] },
		func(f *faces.Faces) { f.Next[3] = -1 },
		func(f *faces.Faces) { f.Next = append(f.Next, 0) },
		func(f *faces.Faces) { f.Left[2] = math.MaxInt },
		func(f *faces.Faces) { f.Left = f.Left[1:] },
		func(f *faces.Faces) { f.Outer[0] = 0 },
		func(f *faces.Faces) { f.Outer[1]++ },
		func(f *faces.Faces) {
			f.Outer, f.Inner, f.Alone = append(f.Outer, 0), append(f.Inner, nil), append(f.Alone, nil)
		},
		func(f *faces.Faces) { f.Inner[0], f.Inner[1] = f.Inner[1], f.Inner[0] },
		func(f *faces.Faces) { f.Inner[1] = nil },
		func(f *faces.Faces) { f.Inner = append(f.Inner, nil) },
		func(f *faces.Faces) { f.Alone[0], f.Alone[1] = f.Alone[1], f.Alone[0] },
		func(f *faces.Faces) { f.Alone[0] = slices.Concat(f.Alone[1], f.Alone[0]) },
		func(f *faces.Faces) { *f = faces.Faces{Outer: f.Outer, Inner: f.Inner, Alone: f.Alone} },
	} {
		other := newFaces(t, a)
		change(&other)
		l, e := locate.New(a, other)
		expect(t, fmt.Sprint("New after the change ", i), fmt.Sprint(l == nil, e), fmt.Sprint(true, api.ErrArg))
	}
}

func TestMemory(t *testing.T) { // P10.1, R3: a locator keeps none of its arguments, and none is changed
	source := rand.New(rand.NewPCG(10, 1))
	for range 50 {
		c := randomChart(source)
		a := newArr(t, c)
		f := newFaces(t, a)
		l, e := locate.New(a, f)
		expect(t, "New", e, api.OK)
		again := newArr(t, c)
		expect(t, "the arrangement", arrange.Equal(a, again), true)
		expect(t, "the faces", faces.Equal(f, newFaces(t, again)), true)
		for i := range a.E {
			clear(a.E[i].Of)
		}
		for _, list := range slices.Concat([][]int{f.Next, f.Left, f.Outer}, f.Inner, f.Alone) {
			clear(list)
		}
		clear(a.Segs)
		clear(a.Points)
		clear(a.V)
		clear(a.E)
		checkPoints(t, located{l, modelOf(again, newFaces(t, again))}, source, 10)
	}
}

func TestFind(t *testing.T) { // P10.2
	var c chart
	c.square(0, 0, 8)                              // the vertices 0, 1, 8 and 9; the edges 0 to the left, 1 below, 2 above, 7 to the right
	c.line(xy(2, 2), xy(2, 6), xy(6, 6), xy(2, 2)) // the vertices 2, 3 and 6; the edges 3 to the left, 4 below, 5 above
	c.line(xy(4, 1), xy(7, 1))                     // the vertices 4 and 7; the edge 6
	c.points = []api.Point{xy(4, 3), xy(12, 12)}   // the vertices 5 and 10
	m := newMap(t, c)
	for _, found := range []struct {
		x, y        [2]int
		kind, index int
	}{
		{[2]int{0, 1}, [2]int{0, 1}, locate.AtVertex, 0},
		{[2]int{0, 1}, [2]int{8, 1}, locate.AtVertex, 1},
		{[2]int{4, 1}, [2]int{1, 1}, locate.AtVertex, 4},
		{[2]int{4, 1}, [2]int{3, 1}, locate.AtVertex, 5},
		{[2]int{12, 1}, [2]int{12, 1}, locate.AtVertex, 10},
		{[2]int{0, 1}, [2]int{3, 1}, locate.OnEdge, 0},
		{[2]int{0, 1}, [2]int{1, 1000}, locate.OnEdge, 0},
		{[2]int{1, 1000}, [2]int{0, 1}, locate.OnEdge, 1},
		{[2]int{7999, 1000}, [2]int{0, 1}, locate.OnEdge, 1},
		{[2]int{1, 2}, [2]int{8, 1}, locate.OnEdge, 2},
		{[2]int{2, 1}, [2]int{5, 1}, locate.OnEdge, 3},
		{[2]int{10, 3}, [2]int{10, 3}, locate.OnEdge, 4},
		{[2]int{4, 1}, [2]int{6, 1}, locate.OnEdge, 5},
		{[2]int{5, 1}, [2]int{1, 1}, locate.OnEdge, 6},
		{[2]int{8, 1}, [2]int{79, 10}, locate.OnEdge, 7},
		{[2]int{1, 1}, [2]int{1, 1}, locate.InFace, 1},
		{[2]int{3, 1}, [2]int{1, 1}, locate.InFace, 1},
		{[2]int{15, 2}, [2]int{1, 1}, locate.InFace, 1}, // on the line of an edge, beyond its end
		{[2]int{7, 1}, [2]int{7, 1}, locate.InFace, 1},
		{[2]int{1, 1}, [2]int{6, 1}, locate.InFace, 1},
		{[2]int{8001, 1000}, [2]int{1, 1}, locate.InFace, 0},
		{[2]int{3, 1}, [2]int{7, 1}, locate.InFace, 1},
		{[2]int{3, 1}, [2]int{3001, 1000}, locate.InFace, 2},
		{[2]int{3, 1}, [2]int{2999, 1000}, locate.InFace, 1},
		{[2]int{2, 1}, [2]int{7, 1}, locate.InFace, 1}, // above and below an upright edge
		{[2]int{2, 1}, [2]int{1, 1}, locate.InFace, 1},
		{[2]int{0, 1}, [2]int{9, 1}, locate.InFace, 0},
		{[2]int{0, 1}, [2]int{-1, 1}, locate.InFace, 0},
		{[2]int{8, 1}, [2]int{9, 1}, locate.InFace, 0},
		{[2]int{10, 1}, [2]int{4, 1}, locate.InFace, 0},
		{[2]int{-1, 1}, [2]int{4, 1}, locate.InFace, 0},
	} {
		p := fraction(found.x, found.y)
		want := locate.Spot{Kind: found.kind, Index: found.index}
		spot, e := m.Find(p)
		expect(t, fmt.Sprint("Find of ", found.x, found.y), fmt.Sprint(spot, e), fmt.Sprint(want, api.OK))
		expect(t, "the model", m.model.find(ratOf(p)), want)
	}
	nothing := newMap(t, chart{})
	spot, e := nothing.Find(point.P{})
	expect(t, "Find in the arrangement of nothing", fmt.Sprint(spot, e), fmt.Sprint(locate.Spot{Kind: locate.InFace}, api.OK))
}

func TestFindOfSmallCharts(t *testing.T) { // P10.2 to P10.4
	source := rand.New(rand.NewPCG(10, 2))
	count := 0
	for c := range smallCharts {
		checkPoints(t, newMap(t, c), source, 1)
		if count++; t.Failed() {
			return
		}
	}
	expect(t, "the number of charts", count, 36*37*38/6)
}

func TestFindOfManyCharts(t *testing.T) { // P10.2 to P10.4
	source := rand.New(rand.NewPCG(10, 3))
	var kinds [3]int
	deep := 0
	for range 250 {
		m := newMap(t, randomChart(source))
		for _, spot := range checkPoints(t, m, source, 10) {
			kinds[spot.Kind]++
		}
		for face := range m.model.outer {
			p, _ := m.Inside(face)
			if len(m.model.facesAround(ratOf(p))) > 2 {
				deep++
			}
		}
	}
	if slices.Min(kinds[:]) < 1000 || deep < 100 {
		t.Errorf("only %v spots of the kinds, and %d faces within several ones", kinds, deep)
	}
}

func TestFindAtLimits(t *testing.T) { // P10.2 to P10.4: coordinates up to the limits, and fractions of them
	source := rand.New(rand.NewPCG(10, 4))
	for range 100 {
		checkPoints(t, newMap(t, steep(source)), source, 5)
	}
	var c chart
	c.square(-most, -most, 2*most)
	c.line(xy(1-most, 1-most), xy(most, most-1), xy(most-1, most), xy(1-most, 1-most))
	m := newMap(t, c)
	checkPoints(t, m, source, 50)
	for p, want := range map[api.Point]int{
		xy(most, most): 0, xy(most, 0): 0, xy(0, most): 0, xy(-most, -most): 1, xy(-most, 0): 1, xy(0, -most): 1, xy(-most, most): 0, xy(most, -most): 0,
	} {
		face, e := m.Face(p)
		expect(t, fmt.Sprint("Face of ", p), fmt.Sprint(face, e), fmt.Sprint(want, api.OK))
	}
}

func TestFindOfLongNumbers(t *testing.T) { // P10.2
	source := rand.New(rand.NewPCG(10, 5))
	for range 40 {
		c := randomChart(source)
		m := newMap(t, movedChart(c, most/32, xy(source.IntN(32), source.IntN(32))))
		for _, p := range somePoints(m.model, source, 5) {
			for _, exponent := range []int{500, 900, 960, 965} {
				tiny := power(2, -exponent)
				near := shifted(p, tiny, tiny)
				if source.IntN(2) == 0 {
					near.Y, _ = frac.Sub(p.Y, tiny)
				}
				if bits(near) <= 1000 {
					checkFind(t, m, near)
				}
			}
			p.X = power(-3, 630)
			checkFind(t, m, p)
			p.Y = power(7, 356)
			checkFind(t, m, p)
			p.X, _ = frac.Add(point.Of(xy(source.IntN(most), 0)).X, power(5, -400))
			checkFind(t, m, p)
			p.Y, _ = frac.Sub(point.Of(xy(source.IntN(most), 0)).X, power(3, -600))
			checkFind(t, m, p)
		}
	}
}

func TestFindOfHugeNumbers(t *testing.T) { // P10.2: an error of package frac, or the result
	source := rand.New(rand.NewPCG(10, 6))
	errors := 0
	for range 8 {
		m := newMap(t, randomChart(source))
		for _, p := range somePoints(m.model, source, 3) {
			for _, x := range []frac.Frac{p.X, power(2, 16383), power(-2, 16383), power(2, -16383), power(3, -10000), power(-5, -7000)} {
				y := []frac.Frac{p.Y, power(2, 16383), power(-7, 5800), power(-2, -16383), power(3, -9999)}[source.IntN(5)]
				huge := point.P{X: x, Y: y}
				if source.IntN(2) == 0 {
					huge.X, _ = frac.Add(p.X, x)
				}
				spot, e := m.Find(huge)
				if e == api.OK {
					expect(t, "Find", spot, m.model.find(ratOf(huge)))
				} else {
					expect(t, "Find", fmt.Sprint(spot, e), fmt.Sprint(locate.Spot{}, api.ErrLimit))
					errors++
				}
			}
		}
	}
	if errors < 20 {
		t.Errorf("only %d errors", errors)
	}
}

func TestFace(t *testing.T) { // P10.3
	var c chart
	c.line(xy(-4, 0), xy(0, 0), xy(-4, 4), xy(-4, 0)) // the face 1
	c.line(xy(0, 0), xy(4, 0), xy(4, 4), xy(0, 0))    // the face 2, which begins above (1, 0)
	c.line(xy(0, 0), xy(-4, -4), xy(0, -4), xy(4, -4), xy(0, 0), xy(0, -4))
	m := newMap(t, c)
	for p, want := range map[api.Point]api.Point{ // the faces of points within
		xy(0, 0): xy(3, 1), xy(-2, 0): xy(-3, 1), xy(2, 0): xy(3, 1), xy(2, 2): xy(3, 1), xy(-2, 2): xy(3, 9), xy(-4, 0): xy(-3, 1),
		xy(-4, 2): xy(-3, 1), xy(4, 2): xy(3, 9), xy(4, 0): xy(3, 9), xy(-4, 4): xy(3, 9), xy(0, -2): xy(1, -3), xy(0, -4): xy(1, -3),
		xy(-2, -2): xy(-1, -3), xy(2, -2): xy(9, 9), xy(-4, -4): xy(-1, -3), xy(4, -4): xy(9, 9), xy(2, 1): xy(3, 1),
	} {
		face, e := m.Face(p)
		spot, _ := m.Find(point.Of(moved(want, 1, xy(0, 0))))
		expect(t, fmt.Sprint("Face of ", p), fmt.Sprint(locate.Spot{Kind: locate.InFace, Index: face}, e), fmt.Sprint(spot, api.OK))
		checkFace(t, m, p)
	}
	for _, l := range []located{m, newMap(t, chart{})} {
		for _, p := range []api.Point{xy(most+1, 0), xy(0, most+1), xy(-most-1, 0), xy(0, -most-1), xy(math.MaxInt, math.MinInt), xy(math.MinInt, 2)} {
			face, e := l.Face(p)
			expect(t, fmt.Sprint("Face of ", p), fmt.Sprint(face, e), fmt.Sprint(0, api.ErrRange))
		}
		for _, p := range []api.Point{xy(most, most), xy(-most, most), xy(most, -most), xy(-most, -most), xy(0, most), xy(-most, 0)} {
			face, e := l.Face(p)
			expect(t, fmt.Sprint("Face of ", p), fmt.Sprint(face, e), fmt.Sprint(0, api.OK))
		}
	}
}

func TestInside(t *testing.T) { // P10.4
	var c, thin chart
	c.square(0, 0, 8)
	c.square(2, 2, 4)
	c.line(xy(2, 2), xy(6, 6))
	thin.line(xy(-most, -most), xy(most, most-1), xy(most-1, most-2), xy(-most, -most))
	thin.line(xy(-most, most), xy(most, 1-most), xy(most-2, 1-most), xy(-most, most))
	for i, l := range []located{newMap(t, c), newMap(t, thin), newMap(t, chart{}), newMap(t, chart{points: []api.Point{xy(0, 0), xy(most, most)}})} {
		count := len(l.model.outer)
		expect(t, "the number of faces", count, []int{4, 6, 1, 1}[i])
		for face := range count {
			checkInside(t, l, face)
		}
		for _, face := range []int{-1, count, count + 1, math.MinInt, math.MaxInt} {
			p, e := l.Inside(face)
			expect(t, fmt.Sprint("Inside of ", face), fmt.Sprint(point.Compare(p, point.P{}), e), fmt.Sprint(0, api.ErrNone))
		}
	}
}

func TestGreatCharts(t *testing.T) { // P10.2 to P10.4
	source := rand.New(rand.NewPCG(10, 7))
	for i, c := range []chart{nested(api.MaxSegs / 4), lattice(60), sheaf(80), slopes(api.MaxSegs / 2)} {
		a := newArr(t, c)
		f := newFaces(t, a)
		l, e := locate.New(a, f)
		expect(t, "New", e, api.OK)
		expect(t, "whether there are many vertices or edges", max(len(a.V), len(a.E)) >= 512, true)
		for face := range f.Outer {
			p, e := l.Inside(face)
			expect(t, "Inside", e, api.OK)
			spot, e := l.Find(p)
			expect(t, fmt.Sprint("Find in the chart ", i), fmt.Sprint(spot, e), fmt.Sprint(locate.Spot{Kind: locate.InFace, Index: face}, api.OK))
		}
		for v, p := range a.V {
			spot, e := l.Find(p)
			expect(t, "Find", fmt.Sprint(spot, e), fmt.Sprint(locate.Spot{Kind: locate.AtVertex, Index: v}, api.OK))
		}
		for k, edge := range a.E {
			p, _ := point.Mid(a.V[edge.A], a.V[edge.B])
			spot, e := l.Find(p)
			expect(t, "Find", fmt.Sprint(spot, e), fmt.Sprint(locate.Spot{Kind: locate.OnEdge, Index: k}, api.OK))
		}
		m := located{l, modelOf(a, f)}
		for range 5 {
			checkFace(t, m, c.segs[source.IntN(len(c.segs))].A)
			checkFace(t, m, xy(source.IntN(2*most)-most, source.IntN(2*most)-most))
		}
	}
}

func FuzzAllArguments(f *testing.F) { // P1, P10.1 to P10.4
	f.Add([]byte{0, 0, 8, 0, 8, 0, 8, 8, 8, 8, 0, 8, 0, 8, 0, 0, 2, 2, 4, 4}, []byte{3, 4}, 1, 0, 9, 3, 2, 1)
	f.Add([]byte{0, 0, 9, 9, 9, 0, 0, 9, 0, 4, 9, 5, 0, 1, 9, 1}, []byte{0, 5, 7, 7}, most/9, -most, 4, 2, 9, 3)
	f.Add([]byte{0, 0, 8, 0, 8, 0, 4, 9, 4, 9, 0, 0, 4, 2, 4, 3}, []byte{4, 1, 4, 4}, -3, 5, -12, 3, math.MaxInt, 70)
	f.Add([]byte{1, 2, 3, 4}, []byte(nil), 0, math.MinInt, 1, 5, 7, 300)
	f.Fuzz(func(t *testing.T, ends, marks []byte, scale, shift, x, den, y, exponent int) {
		place := func(b []byte) api.Point { return moved(xy(int(b[0]), int(b[1])), scale, xy(shift, shift)) }
		var c chart
		for b := range slices.Chunk(ends[:min(len(ends), 48)/4*4], 4) {
			c.segs = append(c.segs, api.Seg{A: place(b[:2]), B: place(b[2:])})
		}
		for b := range slices.Chunk(marks[:min(len(marks), 12)/2*2], 2) {
			c.points = append(c.points, place(b))
		}
		if _, e := arrange.New(c.segs, c.points); e != api.OK {
			c = chart{}
		}
		m := newMap(t, c)
		checkFace(t, m, xy(x, y))
		checkFace(t, m, moved(xy(x%16, y%16), scale, xy(shift, shift)))
		for _, p := range []point.P{fraction([2]int{x, den}, [2]int{y, den}), fraction([2]int{x%999 + shift*9, 9}, [2]int{y%99 + shift*7, 7})} {
			checkFind(t, m, p)
			p.Y, _ = frac.Add(p.Y, power(2, exponent%900))
			checkFind(t, m, p)
		}
		checkInside(t, m, x)
		checkInside(t, m, x%(len(m.model.outer)+1))
	})
}

// located is a locator and the model of its arrangement.
type located struct {
	*locate.Locator
	model model
}

func newMap(t *testing.T, c chart) located {
	t.Helper()
	a := newArr(t, c)
	f := newFaces(t, a)
	l, e := locate.New(a, f)
	expect(t, "New", e, api.OK)
	return located{l, modelOf(a, f)}
}

func newArr(t *testing.T, c chart) arrange.Arr {
	t.Helper()
	a, e := arrange.New(c.segs, c.points)
	expect(t, "arrange.New", e, api.OK)
	return a
}

func newFaces(t *testing.T, a arrange.Arr) faces.Faces {
	t.Helper()
	f, e := faces.New(a)
	expect(t, "faces.New", e, api.OK)
	return f
}

// checkPoints checks some spots and faces of points, and points in all faces; it returns the spots.
func checkPoints(t *testing.T, m located, source *rand.Rand, n int) []locate.Spot {
	t.Helper()
	var spots []locate.Spot
	for _, p := range somePoints(m.model, source, n) {
		spots = append(spots, checkFind(t, m, p))
		near, _ := point.Round(p)
		checkFace(t, m, near)
	}
	for face := range m.model.outer {
		checkInside(t, m, face)
	}
	return spots
}

// checkFind checks the spot of a point, and returns it.
func checkFind(t *testing.T, m located, p point.P) locate.Spot {
	t.Helper()
	want := m.model.find(ratOf(p))
	spot, e := m.Find(p)
	if spot != want || e != api.OK {
		t.Fatalf("Find of %v, %v: %v, error %d, want %v", p.X, p.Y, spot, e, want)
	}
	return spot
}

// checkFace checks the face of a point of the grid, which can be any one.
func checkFace(t *testing.T, m located, p api.Point) {
	t.Helper()
	var want locate.Spot
	err := point.Valid(p)
	if err == api.OK {
		want = m.model.face(p)
		expect(t, "the kind of a point beside a point of the grid", want.Kind, locate.InFace)
	}
	face, e := m.Face(p)
	expect(t, fmt.Sprint("Face of ", p), fmt.Sprint(face, e), fmt.Sprint(want.Index, err))
}

// checkInside checks the point in a face, or the error, if there is none.
func checkInside(t *testing.T, m located, face int) {
	t.Helper()
	p, e := m.Inside(face)
	if face < 0 || face >= len(m.model.outer) {
		expect(t, fmt.Sprint("Inside of ", face), fmt.Sprint(point.Compare(p, point.P{}), e), fmt.Sprint(0, api.ErrNone))
		return
	}
	want := locate.Spot{Kind: locate.InFace, Index: face}
	if spot := m.model.find(ratOf(p)); spot != want || e != api.OK || bits(p) > 1000 {
		t.Fatalf("Inside of %d: %v, %v, error %d; it has the spot %v, and %d bits", face, p.X, p.Y, e, spot, bits(p))
	}
}

// somePoints returns n points of each of several sorts: vertices, points on edges and near to them, and above ends of edges.
func somePoints(m model, source *rand.Rand, n int) []point.P {
	var list []point.P
	for range n {
		list = append(list, point.Of(xy(source.IntN(36)-2, source.IntN(36)-2)))
		list = append(list, fraction([2]int{source.IntN(36) - 2, 2}, [2]int{source.IntN(50) - 2, 3}))
		list = append(list, fraction([2]int{source.IntN(2*most) - most, 2}, [2]int{source.IntN(4*most) - 2*most, 3}))
		if len(m.points) == 0 {
			continue
		}
		p, q := m.points[source.IntN(len(m.points))], m.points[source.IntN(len(m.points))]
		middle, _ := point.Mid(p, q)
		list = append(list, p, middle, point.P{X: p.X, Y: q.Y}, point.P{X: p.X, Y: middle.Y})
		if len(m.edges) == 0 {
			continue
		}
		e := m.edges[source.IntN(len(m.edges))]
		on, _ := point.Mid(m.points[e.A], m.points[e.B])
		for range source.IntN(3) {
			on, _ = point.Mid(on, m.points[e.B])
		}
		tiny := power(10, -1-source.IntN(20))
		list = append(list, on, shifted(on, tiny, frac.Frac{}), shifted(on, frac.Frac{}, power(-10, -1-2*source.IntN(10))))
	}
	return list
}

// power returns the power of an integer; that of -k to an exponent that is even is meant to be negative, too.
func power(k, exponent int) frac.Frac {
	x, _ := frac.Of(max(k, -k), 1)
	if exponent < 0 {
		x, _ = frac.Div(point.Of(xy(1, 0)).X, x)
	}
	x, _ = frac.Pow(x, max(exponent, -exponent))
	if k < 0 {
		x, _ = frac.Sub(frac.Frac{}, x)
	}
	return x
}

// fraction returns the point of two fractions, each given by its numerator and denominator; 0 stands for the denominator 1.
func fraction(x, y [2]int) point.P {
	var p point.P
	p.X, _ = frac.Of(x[0], cmp.Or(x[1], 1))
	p.Y, _ = frac.Of(y[0], cmp.Or(y[1], 1))
	return p
}

// expect reports a result that is not the expected one.
func expect[T comparable](t *testing.T, name string, got, want T) {
	t.Helper()
	if got != want {
		t.Fatalf("%s: %v, want %v", name, got, want)
	}
}
