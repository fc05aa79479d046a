package faces_test

import (
	"fmt"
	"math"
	"math/rand/v2"
	"slices"
	"strings"
	"testing"

	"meresman/api"
	"meresman/arrange"
	"meresman/faces"
)

// Expected results are those of the model, or were found by hand with pencil and paper.

func TestExamples(t *testing.T) {
	var c chart
	c.square(0, 0, 8)
	f := checkNew(t, c)
	expect(t, "a square", text(f), "4 2 6 0 7 1 5 3; 0 1 1 0 0 1 1 0; -1 1; 0|; |")
	c.square(2, 2, 4)
	f = checkNew(t, c)
	expect(t, "a square within it", text(f), "4 2 14 0 15 1 10 8 12 6 13 7 11 9 5 3; 0 1 1 0 0 1 1 2 2 1 1 2 2 1 1 0; -1 1 7; 0|6|; ||")
	c = chart{}
	c.line(xy(4, 0), xy(0, 0))
	f = checkNew(t, c)
	expect(t, "a segment", text(f), "1 0; 0 0; -1; 0; ")
	c = chart{} // of section 8
	c.line(xy(0, 0), xy(2, 2))
	c.line(xy(0, 1), xy(2, 1))
	f = checkNew(t, c)
	expect(t, "two segments", text(f), "3 0 6 2 5 1 7 4; 0 0 0 0 0 0 0 0; -1; 0; ")
}

func TestNew(t *testing.T) { // P9.1
	const square = "4 2 6 0 7 1 5 3; 0 1 1 0 0 1 1 0; -1 1; 0|; "
	var empty, around, gone chart
	expect(t, "nothing", text(checkNew(t, empty)), "; ; -1; ; ")
	empty.points = []api.Point{xy(3, 1), xy(2, 7), xy(3, 1), xy(3, 2)}
	expect(t, "points alone", text(checkNew(t, empty)), "; ; -1; ; 0 1 2")
	around.square(0, 0, 4)
	around.points = []api.Point{xy(2, 3), xy(-1, 2), xy(5, 2), xy(3, 1), xy(2, 5), xy(0, 0), xy(2, -1), xy(2, 1)}
	expect(t, "points about a square", text(checkNew(t, around)), square+"0 3 6 10|4 5 7")
	around.points = nil
	around.segs = append(around.segs, around.segs...)
	expect(t, "a square twice", text(checkNew(t, around)), square+"|")
	gone.square(0, 0, 4)
	gone.line(xy(4, 4), xy(2, 2)) // which ends within the square
	f := checkNew(t, gone)
	expect(t, "a segment into a square", text(f), "4 2 8 0 9 1 5 6 7 3; 0 1 1 0 0 1 1 1 1 0; -1 1; 0|; |")
	f, e := faces.New(arrange.Arr{})
	expect(t, "the zero Arr", text(f), "; ; -1; ; ")
	expect(t, "the zero Arr", e, api.OK)
}

func TestNewBelowOthers(t *testing.T) { // P9.1: what lies above ends and corners of others
	for _, c := range []struct {
		draw    func(c *chart)
		p       api.Point
		inFace0 bool
	}{
		{func(c *chart) { c.ring(xy(-6, -2), xy(0, 0), xy(-6, 2)) }, xy(0, 3), false}, // a corner that ends below the point
		{func(c *chart) { c.ring(xy(6, -2), xy(0, 0), xy(6, 2)) }, xy(0, 3), false},   // one that begins there
		{func(c *chart) { c.line(xy(0, -3), xy(0, 0)) }, xy(0, 3), false},             // an upright segment
		{func(c *chart) { c.line(xy(0, 4), xy(0, 5)) }, xy(0, 3), false},
		{func(c *chart) { c.line(xy(-2, 0), xy(0, 0), xy(0, 2)) }, xy(0, 3), false},
		{func(c *chart) { c.line(xy(0, 0), xy(5, 5)); c.line(xy(0, 0), xy(5, -5)); c.line(xy(0, 0), xy(5, 1)) }, xy(0, 3), false},
		{func(c *chart) { c.square(-1, -1, 2) }, xy(1, 3), false},
		{func(c *chart) { c.square(-1, -1, 2) }, xy(-1, 3), false},
		{func(c *chart) { c.square(-8, -8, 15) }, xy(0, 9), true},
		{func(c *chart) { c.square(-8, -8, 15) }, xy(8, 3), true},
		{func(c *chart) { c.square(-8, -8, 15) }, xy(-9, 3), true},
		{func(c *chart) { c.square(-8, -8, 15) }, xy(0, -10), true},
	} {
		var about chart
		if !c.inFace0 {
			about.square(-8, -8, 16)
		}
		c.draw(&about)
		about.points = []api.Point{c.p}
		f := checkNew(t, about)
		alone := slices.IndexFunc(f.Alone, func(l []int) bool { return len(l) > 0 })
		expect(t, fmt.Sprint("the face around ", c.p, " is 0"), alone == 0, c.inFace0)
	}
}

func TestNewOfSmallCharts(t *testing.T) { // P9.1
	count := 0
	for c := range smallCharts {
		if checkNew(t, c); t.Failed() {
			return
		}
		count++
	}
	expect(t, "the number of charts", count, 36*37*38/6)
}

func TestNewOfManyCharts(t *testing.T) { // P9.1
	source := rand.New(rand.NewPCG(9, 1))
	bounded, deep := 0, 0
	for range 400 {
		f := checkNew(t, tangle(source))
		bounded += len(f.Outer) - 1
		c := islands(source)
		checkNew(t, c)
		_, n := modelOf(newArr(t, c)).faces()
		deep += n
	}
	if bounded < 1500 || deep < 1000 {
		t.Errorf("only %d bounded faces, and %d components within several ones", bounded, deep)
	}
}

func TestNewAtLimits(t *testing.T) { // P9.1: coordinates up to the limits, and fractions of them
	source := rand.New(rand.NewPCG(9, 2))
	for range 100 {
		c := moved(tangle(source), most/4, -most, -most)
		for i := range c.segs { // ends that hardly differ no longer meet
			shift := func(n int) int { return min(max(n+source.IntN(3)-1, -most), most) }
			c.segs[i].A.X, c.segs[i].B.Y = shift(c.segs[i].A.X), shift(c.segs[i].B.Y)
		}
		checkNew(t, c)
	}
	var c chart
	c.square(-most, -most, 2*most)
	c.ring(xy(1-most, 1-most), xy(most-1, 2-most), xy(most-1, most-1))
	c.line(xy(2-most, 2-most), xy(most-2, most-3)) // within the triangle, by less than 1
	c.points = []api.Point{xy(0, 0), xy(0, -1), xy(most-1, 1-most), xy(1-most, most-1)}
	f := checkNew(t, c)
	expect(t, "the faces", len(f.Outer), 3)
}

func TestNewOfGreatCharts(t *testing.T) { // P9.1, P9.6
	const n = api.MaxSegs / 4
	f := newFaces(t, nested(n))
	expect(t, "the faces of squares within squares", len(f.Outer), n+1)
	for face := range n + 1 {
		list, e := faces.Neighbours(f, face)
		want := []int{face - 1, face + 1}[max(0, 1-face):min(2, n+1-face)]
		expect(t, "their neighbours", fmt.Sprint(list, e), fmt.Sprint(want, api.OK))
		if face < n {
			expect(t, "the squares within a square", fmt.Sprint(len(f.Inner[face]), f.Left[f.Inner[face][0]]), fmt.Sprint(1, face))
		}
		if face > 0 {
			expect(t, "the points within a square", fmt.Sprint(f.Alone[face]), fmt.Sprint([]int{3*face - 1}))
		}
	}
	f = newFaces(t, lattice(60))
	expect(t, "the faces of a lattice", len(f.Outer), 59*59+1)
	alone := 0
	for face, h := range f.Outer[1:] {
		cycle, _ := faces.Cycle(f, h)
		list, _ := faces.Neighbours(f, face+1)
		if len(cycle) != 4 || len(list) < 3 || len(list) > 4 || len(f.Inner[face+1]) > 0 {
			t.Errorf("the face %d has the outer cycle %v, and the neighbours %v", face+1, cycle, list)
		}
		alone += min(1, len(f.Alone[face+1]))
	}
	expect(t, "the cells with a point", alone, 59)
	f = newFaces(t, pencil(api.MaxSegs))
	cycle, _ := faces.Cycle(f, 777)
	expect(t, "the faces of a pencil", fmt.Sprint(len(f.Outer), len(cycle)), "1 2048")
	f = newFaces(t, slopes(254))
	expect(t, "the faces between slopes", len(f.Outer), 254)
	for face, list := range f.Alone {
		expect(t, fmt.Sprint("the points in the face ", face), len(list), 1)
	}
}

func TestMemory(t *testing.T) { // P9.1, R3: results share no memory, and arguments stay as they are
	source := rand.New(rand.NewPCG(9, 3))
	for range 50 {
		a := newArr(t, islands(source))
		before := arrange.Encode(a)
		f, _ := faces.New(a)
		faces.Components(a)
		expect(t, "the arrangement", string(arrange.Encode(a)), string(before))
		again, _ := faces.New(a)
		for face := range f.Outer[1:] {
			cycle, _ := faces.Cycle(f, f.Outer[face+1])
			list, _ := faces.Neighbours(f, face)
			clear(cycle)
			clear(list)
		}
		expect(t, "the faces", text(f), text(again))
		lists := slices.Concat([][]int{f.Next, f.Left, f.Outer}, f.Inner, f.Alone)
		for i, list := range lists {
			for k := range cap(list) {
				list[:cap(list)][k] = i
			}
		}
		for i, list := range lists {
			if slices.ContainsFunc(list, func(n int) bool { return n != i }) {
				t.Fatalf("the list %d shares its memory with another one", i)
			}
		}
		expect(t, "the arrangement", string(arrange.Encode(a)), string(before))
	}
}

func TestCycle(t *testing.T) { // P9.2
	source := rand.New(rand.NewPCG(9, 4))
	for range 100 {
		f := newFaces(t, tangle(source))
		for h := range f.Next {
			cycle, e := faces.Cycle(f, h)
			for i, g := range cycle {
				if next := cycle[(i+1)%len(cycle)]; f.Next[g] != next || i > 0 && g == h {
					t.Fatalf("%d comes after %d in the cycle of %d", next, g, h)
				}
			}
			expect(t, "where a cycle begins", fmt.Sprint(cycle[0], e), fmt.Sprint(h, api.OK))
		}
	}
	var c chart
	c.square(0, 0, 4)
	f := newFaces(t, c)
	for h, want := range []string{"0 4 7 3", "1 2 6 5", "2 6 5 1", "3 0 4 7", "4 7 3 0", "5 1 2 6", "6 5 1 2", "7 3 0 4"} {
		cycle, e := faces.Cycle(f, h)
		expect(t, "Cycle", fmt.Sprint(cycle, e), fmt.Sprintf("[%s] %d", want, api.OK))
	}
	for _, h := range []int{-1, 8, 9, math.MinInt, math.MaxInt} {
		cycle, e := faces.Cycle(f, h)
		expect(t, "Cycle of no half-edge", fmt.Sprint(cycle, e), fmt.Sprint([]int{}, api.ErrNone))
	}
	for _, f := range []faces.Faces{{}, newFaces(t, chart{})} {
		cycle, e := faces.Cycle(f, 0)
		expect(t, "Cycle of no half-edge", fmt.Sprint(cycle, e), fmt.Sprint([]int{}, api.ErrNone))
	}
}

func TestNeighbours(t *testing.T) { // P9.3
	var c chart
	c.square(0, 0, 8)
	c.square(8, 8, 4)                                     // which has but a corner in common with the first one
	c.square(8, 0, 4)                                     // which has an edge in common with it
	c.line(xy(1, 4), xy(7, 4))                            // with the same face to both sides
	c.ring(xy(2, 5), xy(2, 6), xy(3, 5))                  // within the first one
	c.ring(xy(9, 1), xy(11, 1), xy(11, 3))                // within the third one
	c.points = []api.Point{xy(5, 5), xy(20, 0), xy(8, 4)} // two in faces, and one on edges
	f := checkNew(t, c)
	names := []string{"outside", "first", "within the first", "third", "second", "within the third"}
	for face, want := range []string{"first third second", "outside within the first third", "first", "outside first within the third", "outside", "third"} {
		list, e := faces.Neighbours(f, face)
		var got []string
		for _, n := range list {
			got = append(got, names[n])
		}
		expect(t, "the neighbours of "+names[face], strings.Join(got, " "), want)
		expect(t, "Neighbours", e, api.OK)
	}
	for _, face := range []int{-1, 6, 7, math.MinInt, math.MaxInt} {
		list, e := faces.Neighbours(f, face)
		expect(t, "Neighbours of no face", fmt.Sprint(list, e), fmt.Sprint([]int{}, api.ErrNone))
	}
	list, e := faces.Neighbours(faces.Faces{}, 0)
	expect(t, "Neighbours in the zero Faces", fmt.Sprint(list, e), fmt.Sprint([]int{}, api.ErrNone))
	list, e = faces.Neighbours(newFaces(t, chart{}), 0)
	expect(t, "Neighbours of the only face", fmt.Sprint(list, e), fmt.Sprint([]int{}, api.OK))
}

func TestComponents(t *testing.T) { // P9.4
	var c chart
	c.square(0, 0, 8)
	c.square(2, 2, 4)
	c.points = []api.Point{xy(1, 1), xy(2, 3), xy(9, 9)}
	expect(t, "Components", fmt.Sprint(faces.Components(newArr(t, c))), "[0 0 2 3 3 3 3 3 0 0 10]")
	expect(t, "Components of the zero Arr", len(faces.Components(arrange.Arr{})), 0)
	c = chart{}
	for i := range 8 { // which the last segment connects
		c.line(xy(0, i), xy(9, i))
	}
	c.line(xy(9, 0), xy(9, 7))
	expect(t, "Components", fmt.Sprint(faces.Components(newArr(t, c))), fmt.Sprint(make([]int, 16)))
	expect(t, "Components", slices.Max(faces.Components(newArr(t, pencil(api.MaxSegs)))), 0)
	source := rand.New(rand.NewPCG(9, 5))
	for range 200 {
		a := newArr(t, tangle(source))
		expect(t, "Components", fmt.Sprint(faces.Components(a)), fmt.Sprint(modelOf(a).least))
	}
}

func TestEncode(t *testing.T) { // P9.5
	var c chart
	c.square(0, 0, 100)
	c.points = []api.Point{xy(50, 50), xy(40, 40), xy(200, 0)}
	want := []byte{
		8, 8, 4, 12, 0, 14, 2, 10, 6, // Next
		8, 0, 2, 2, 0, 0, 2, 2, 0, // Left
		2, 1, 2, // Outer
		4, 1, 0, 0, // Inner
		4, 1, 12, 2, 4, 6, // Alone
	}
	expect(t, "Encode", fmt.Sprint(faces.Encode(newFaces(t, c))), fmt.Sprint(want))
	expect(t, "Encode of no edges", fmt.Sprint(faces.Encode(newFaces(t, chart{}))), fmt.Sprint([]byte{0, 0, 1, 1, 2, 0, 2, 0}))
	expect(t, "Encode of the zero Faces", fmt.Sprint(faces.Encode(faces.Faces{})), fmt.Sprint([]byte{0, 0, 0, 0, 0}))
	some := faces.Faces{Next: []int{64}, Left: []int{-65}, Outer: []int{1, 2, 3}, Inner: [][]int{{7}, {}, {8, 9}}, Alone: [][]int{nil, {300}}}
	want = []byte{1, 128, 1, 1, 129, 1, 3, 2, 4, 6, 6, 1, 14, 0, 2, 16, 18, 4, 0, 1, 216, 4}
	expect(t, "Encode of any faces", fmt.Sprint(faces.Encode(some)), fmt.Sprint(want))
}

func TestEqual(t *testing.T) { // P9.5
	var c, d chart
	c.square(0, 0, 8)
	d.ring(xy(5, 5), xy(-3, 5), xy(-3, -1), xy(5, -1))
	expect(t, "Equal of alike squares", faces.Equal(newFaces(t, c), newFaces(t, d)), true)
	d.points = []api.Point{xy(6, 6)}
	expect(t, "Equal of a point more", faces.Equal(newFaces(t, c), newFaces(t, d)), false)
	expect(t, "Equal of zero ones", faces.Equal(faces.Faces{}, faces.Faces{}), true)
	expect(t, "Equal of no edges and the zero Faces", faces.Equal(newFaces(t, chart{}), faces.Faces{}), false)
	nils := faces.Faces{Next: nil, Left: []int{}, Outer: []int{-1}, Inner: [][]int{nil}, Alone: [][]int{{}}}
	expect(t, "Equal of nil and empty lists", faces.Equal(newFaces(t, chart{}), nils), true)
	base := func() faces.Faces {
		return faces.Faces{Next: []int{1, 0}, Left: []int{0, 0}, Outer: []int{-1, 3}, Inner: [][]int{{0}, {2}}, Alone: [][]int{{}, {5, 6}}}
	}
	for i, change := range []func(f *faces.Faces){
		func(f *faces.Faces) { f.Next[1] = 1 },
		func(f *faces.Faces) { f.Left[0] = 1 },
		func(f *faces.Faces) { f.Outer[1] = 4 },
		func(f *faces.Faces) { f.Inner[1][0] = 1 },
		func(f *faces.Faces) { f.Alone[1][1] = 7 },
		func(f *faces.Faces) { f.Next = f.Next[:1] },
		func(f *faces.Faces) { f.Left = f.Left[:1] },
		func(f *faces.Faces) { f.Outer = f.Outer[:1] },
		func(f *faces.Faces) { f.Inner = f.Inner[:1] },
		func(f *faces.Faces) { f.Inner[1] = nil },
		func(f *faces.Faces) { f.Alone = f.Alone[1:] },
		func(f *faces.Faces) { f.Alone[1] = f.Alone[1][:1] },
		func(f *faces.Faces) { f.Inner, f.Alone = f.Alone, f.Inner },
		func(f *faces.Faces) { f.Next, f.Left = f.Left, f.Next },
	} {
		f := base()
		expect(t, fmt.Sprint("Equal before the change ", i), faces.Equal(f, base()), true)
		change(&f)
		expect(t, fmt.Sprint("Equal after the change ", i), faces.Equal(f, base()), false)
		expect(t, fmt.Sprint("Equal after the change ", i), faces.Equal(base(), f), false)
	}
}

func FuzzAllArguments(f *testing.F) { // P1, P9.1 to P9.5
	f.Add([]byte{0, 0, 8, 0, 8, 0, 8, 8, 8, 8, 0, 8, 0, 8, 0, 0, 2, 2, 4, 4}, []byte{3, 4}, 1, 0, 2)
	f.Add([]byte{0, 0, 9, 9, 9, 0, 0, 9, 0, 4, 9, 5, 0, 1, 9, 1}, []byte{0, 5, 7, 7}, most/9, -most, -1)
	f.Add([]byte{0, 0, 8, 0, 8, 0, 4, 9, 4, 9, 0, 0, 4, 2, 4, 3}, []byte{4, 1, 4, 4}, -3, 5, math.MaxInt)
	f.Add([]byte{1, 2, 3, 4}, []byte(nil), 0, math.MinInt, 1)
	f.Fuzz(func(t *testing.T, ends, marks []byte, scale, shift, n int) {
		place := func(b []byte) api.Point { return xy(int(b[0])*scale+shift, int(b[1])*scale+shift) }
		var c chart
		for b := range slices.Chunk(ends[:min(len(ends), 60)/4*4], 4) {
			c.segs = append(c.segs, api.Seg{A: place(b[:2]), B: place(b[2:])})
		}
		for b := range slices.Chunk(marks[:min(len(marks), 20)/2*2], 2) {
			c.points = append(c.points, place(b))
		}
		if _, e := arrange.New(c.segs, c.points); e != api.OK {
			c = chart{}
		}
		g := checkNew(t, c)
		cycle, e := faces.Cycle(g, n)
		if none := n < 0 || n >= len(g.Next); none != (e == api.ErrNone) || none != (len(cycle) == 0) {
			t.Errorf("Cycle of %d of %d half-edges: %v, error %d", n, len(g.Next), cycle, e)
		}
		list, e := faces.Neighbours(g, n)
		if none := n < 0 || n >= len(g.Outer); none != (e == api.ErrNone) || none && len(list) > 0 {
			t.Errorf("Neighbours of %d of %d faces: %v, error %d", n, len(g.Outer), list, e)
		}
	})
}

// checkNew checks the faces of a chart, and the components, and returns the faces.
func checkNew(t *testing.T, c chart) faces.Faces {
	t.Helper()
	a := newArr(t, c)
	m := modelOf(a)
	want, deep := m.faces()
	if deep < 0 {
		t.Fatalf("a component of %v has no innermost face around it", c)
	}
	f, e := faces.New(a)
	if text(f) != text(want) || e != api.OK {
		t.Fatalf("the faces of %v:\n%s, error %d, want\n%s", c, text(f), e, text(want))
	}
	expect(t, "Components", fmt.Sprint(faces.Components(a)), fmt.Sprint(m.least))
	return f
}

func newFaces(t *testing.T, c chart) faces.Faces {
	t.Helper()
	f, e := faces.New(newArr(t, c))
	expect(t, "New", e, api.OK)
	return f
}

func newArr(t *testing.T, c chart) arrange.Arr {
	t.Helper()
	a, e := arrange.New(c.segs, c.points)
	expect(t, "arrange.New", e, api.OK)
	return a
}

// expect reports a result that is not the expected one.
func expect[T comparable](t *testing.T, name string, got, want T) {
	t.Helper()
	if got != want {
		t.Fatalf("%s: %v, want %v", name, got, want)
	}
}

// text returns the fields of faces, with "; " between them, and "|" between the lists of a field.
func text(f faces.Faces) string {
	var texts []string
	for _, lists := range [][][]int{{f.Next}, {f.Left}, {f.Outer}, f.Inner, f.Alone} {
		var parts []string
		for _, list := range lists {
			parts = append(parts, strings.Trim(fmt.Sprint(list), "[]"))
		}
		texts = append(texts, strings.Join(parts, "|"))
	}
	return strings.Join(texts, "; ")
}
