package overlay_test

import (
	"fmt"
	"math"
	"math/rand/v2"
	"slices"
	"testing"

	"meresman/api"
	"meresman/arrange"
	"meresman/faces"
	"meresman/overlay"
)

// Expected results are those of the model, or were found by hand with pencil and paper.

func TestExamples(t *testing.T) { // P11.1
	o := checkNew(t, square(0, 0, 4), square(2, 2, 4))
	list := slices.Clone(o.Face)
	slices.SortFunc(list, slices.Compare)
	expect(t, "Face", fmt.Sprint(list), "[[0 0] [0 1] [1 0] [1 1]]")
	expect(t, "the face outside", fmt.Sprint(o.Face[0]), "[0 0]")
}

func TestNew(t *testing.T) { // P11.1
	// A square has its edges in the order left, below, above, right.
	o := checkNew(t, square(0, 0, 4), overlay.Layer{}, square(2, 2, 4), line(xy(3, 4), xy(-1, 4)), dots(xy(3, 3), xy(9, 9)))
	expect(t, "the number of faces", len(o.Faces.Outer), 4)
	inBoth := slices.IndexFunc(o.Face, func(of []int) bool { return of[0] == 1 && of[2] == 1 })
	expect(t, "the faces of the square within both", fmt.Sprint(o.Face[inBoth]), "[1 0 1 0 0]")
	for _, c := range []struct {
		a, b api.Point
		want string
	}{
		{xy(-1, 4), xy(0, 4), "[-1 -1 -1 0 -1]"},
		{xy(0, 4), xy(2, 4), "[2 -1 -1 0 -1]"},
		{xy(2, 4), xy(3, 4), "[2 -1 -1 0 -1]"},
		{xy(3, 4), xy(4, 4), "[2 -1 -1 -1 -1]"},
		{xy(0, 0), xy(4, 0), "[1 -1 -1 -1 -1]"},
		{xy(0, 0), xy(0, 4), "[0 -1 -1 -1 -1]"},
		{xy(4, 0), xy(4, 2), "[3 -1 -1 -1 -1]"},
		{xy(4, 2), xy(4, 4), "[3 -1 -1 -1 -1]"},
		{xy(2, 2), xy(2, 4), "[-1 -1 0 -1 -1]"},
		{xy(2, 2), xy(4, 2), "[-1 -1 1 -1 -1]"},
		{xy(4, 2), xy(6, 2), "[-1 -1 1 -1 -1]"},
		{xy(2, 6), xy(6, 6), "[-1 -1 2 -1 -1]"},
		{xy(6, 2), xy(6, 6), "[-1 -1 3 -1 -1]"},
	} {
		edges := modelOf(overlay.Layer{Segs: o.Arr.Segs, Points: o.Arr.Points}).edgesWith(ratOfGrid(c.a), ratOfGrid(c.b))
		expect(t, fmt.Sprint("the edge from ", c.a, " to ", c.b), fmt.Sprint(o.Edge[edges[0]]), c.want)
	}
}

func TestNewOfNothing(t *testing.T) { // P11.1
	for _, maps := range [][]overlay.Layer{nil, {}, {{}}, {{}, {}, {}}, make([]overlay.Layer, 16), {dots(xy(0, 0))}, {dots(xy(2, 2)), {}, dots(xy(2, 2))}} {
		o := checkNew(t, maps...)
		expect(t, "Face", fmt.Sprint(o.Face), fmt.Sprint([][]int{make([]int, len(maps))}))
		expect(t, "the number of edges", len(o.Edge), 0)
	}
}

func TestNewOfTriangles(t *testing.T) { // P11.1
	list := triangles()
	expect(t, "the number of triangles", len(list), 76)
	grid := dots(xy(0, 1), xy(1, 0), xy(1, 1), xy(2, 2))
	for i, a := range list {
		for k := i; k >= 0; k -= 2 {
			checkNew(t, []overlay.Layer{a, list[k], grid}[:2+k%2]...)
		}
	}
}

func TestNewOfManyMaps(t *testing.T) { // P11.1
	source := rand.New(rand.NewPCG(11, 1))
	var several, without, together int
	for range 300 {
		maps := someMaps(source)
		o := checkNew(t, maps...)
		several += len(o.Face) - 1
		for _, on := range o.Edge {
			count := 0
			for _, edge := range on {
				count += min(1, edge+1)
			}
			if count > 1 {
				together++
			}
			if count < len(maps) {
				without++
			}
		}
	}
	if several < 1000 || without < 1000 || together < 1000 {
		t.Errorf("only %d faces, %d edges that lie on none of some map, and %d that lie on edges of several maps", several, without, together)
	}
}

func TestNewAtLimits(t *testing.T) { // P11.1: coordinates up to the limits, and vertices with fractions of them
	source := rand.New(rand.NewPCG(11, 2))
	for range 80 {
		checkNew(t, steepMaps(source)...)
	}
	checkNew(t, square(-most, -most, 2*most), square(1-most, 1-most, 2*most-2), line(xy(-most, -most), xy(most, most-1)), line(xy(-most, 1-most), xy(most, most)))
	checkNew(t, dealt(sheaf(12), 5)...)
}

func TestNewOfGreatMaps(t *testing.T) { // P11.1
	for i, c := range []struct {
		m overlay.Layer
		n int // of maps to which it is dealt out
	}{
		{lattice(62), 1}, {lattice(62), 16}, {sheaf(86), 16}, {onOneLine(api.MaxSegs / 2), 1}, {onOneLine(api.MaxSegs / 2), 16},
		{apart(api.MaxSegs), 1}, {apart(api.MaxSegs), 16}, {alone(api.MaxPoints), 1}, {alone(api.MaxPoints), 16},
	} {
		a, e := arrange.New(c.m.Segs, c.m.Points)
		expect(t, "arrange.New", e, api.OK)
		f, _ := faces.New(a)
		maps := dealt(c.m, c.n)
		o, e := overlay.New(maps)
		expect(t, "New", e, api.OK)
		expect(t, "the numbers of vertices and lists", fmt.Sprint(len(o.Arr.V), len(o.Edge), len(o.Face)), fmt.Sprint(len(a.V), len(a.E), len(f.Outer)))
		expect(t, "whether the faces are equal", faces.Equal(o.Faces, f), true)
		checkSides(t, o, maps)
		if c.n == 1 {
			checkOwn(t, o, 1)
		}
		expect(t, "whether there are nearly as many vertices as can be", len(a.V) > 3800, i < 3)
	}
}

func TestErrors(t *testing.T) { // P11.1
	tooManySegs, tooManyPoints := apart(api.MaxSegs+1), alone(api.MaxPoints+1)
	tooManyVertices := moved(lattice(64), 1, xy(5, 5)) // 64 x 64 and 4 x 64
	noRange, noSeg, noPoint := line(xy(0, 0), xy(0, most+1)), line(xy(3, 3), xy(3, 3)), dots(xy(-most-1, 0))
	good := square(0, 0, 4)
	for i, c := range []struct {
		maps []overlay.Layer
		want api.Errno
	}{
		{make([]overlay.Layer, 17), api.ErrLimit},
		{slices.Repeat([]overlay.Layer{good}, 17), api.ErrLimit},
		{slices.Repeat([]overlay.Layer{noRange}, 17), api.ErrLimit},
		{append(slices.Repeat([]overlay.Layer{noSeg}, 16), good), api.ErrLimit},
		{slices.Repeat([]overlay.Layer{noSeg}, 16), api.ErrArg},
		{append(make([]overlay.Layer, 15), noRange), api.ErrRange},
		{[]overlay.Layer{tooManySegs}, api.ErrLimit},
		{[]overlay.Layer{tooManyPoints}, api.ErrLimit},
		{[]overlay.Layer{tooManyVertices}, api.ErrLimit},
		{[]overlay.Layer{noRange}, api.ErrRange},
		{[]overlay.Layer{noSeg}, api.ErrArg},
		{[]overlay.Layer{noPoint}, api.ErrRange},
		{[]overlay.Layer{joined(noPoint, noSeg)}, api.ErrArg},
		{[]overlay.Layer{good, noSeg, noRange}, api.ErrArg},
		{[]overlay.Layer{good, noRange, noSeg}, api.ErrRange},
		{[]overlay.Layer{noPoint, noSeg}, api.ErrRange}, // points of one map before segments of the next one
		{[]overlay.Layer{noSeg, tooManySegs}, api.ErrArg},
		{[]overlay.Layer{tooManyVertices, noSeg}, api.ErrLimit},
		{[]overlay.Layer{good, tooManyPoints, noRange}, api.ErrLimit},
		{[]overlay.Layer{apart(256), apart(256)}, api.OK},
		{[]overlay.Layer{apart(256), {}, apart(257)}, api.ErrLimit},
		{[]overlay.Layer{apart(512), alone(256)}, api.OK},
		{[]overlay.Layer{alone(100), alone(156), good}, api.OK},
		{[]overlay.Layer{alone(100), alone(157)}, api.ErrLimit},
		{[]overlay.Layer{apart(512), apart(1), noSeg}, api.ErrArg}, // the maps one by one before all of them
		{[]overlay.Layer{alone(256), alone(1), noPoint}, api.ErrRange},
		{[]overlay.Layer{apart(512), apart(1), tooManyVertices, noSeg}, api.ErrLimit},
		{dealt(tooManyVertices, 2), api.ErrLimit},
		{append(dealt(tooManyVertices, 2), noSeg), api.ErrArg},
		{append(dealt(lattice(62), 2), dots(gridPoints(-8, 0)...)), api.OK}, // 62 x 62 and 4 x 62 vertices, which are 4092 in all, are 4 less
		{append(dealt(lattice(62), 2), dots(gridPoints(-8, 1)...)), api.OK},
		{append(dealt(lattice(62), 2), dots(gridPoints(-8, 4)...)), api.OK},
		{append(dealt(lattice(62), 2), dots(gridPoints(-8, 5)...)), api.ErrLimit},
	} {
		o, e := overlay.New(c.maps)
		expect(t, fmt.Sprint("the error of New ", i), e, c.want)
		if e != api.OK {
			expectNothing(t, o)
		}
	}
}

// gridPoints returns n points with an X.
func gridPoints(x, n int) []api.Point {
	var list []api.Point
	for i := range n {
		list = append(list, xy(x, i))
	}
	return list
}

func TestMemory(t *testing.T) { // P11.1, R3: nothing is kept or changed, and no two results share memory
	source := rand.New(rand.NewPCG(11, 3))
	for range 60 {
		maps := someMaps(source)
		before := copied(maps)
		o, _ := overlay.New(maps)
		expect(t, "the maps", fmt.Sprint(maps), fmt.Sprint(before))
		for _, m := range maps {
			clear(m.Segs)
			clear(m.Points)
		}
		clear(maps)
		checkOver(t, o, before)
		for a := range before {
			part, _ := overlay.Part(o, a, 0)
			pairs, _ := overlay.Common(o, a, 0)
			clear(part)
			clear(pairs)
		}
		checkOver(t, o, before)
		for i, list := range slices.Concat(o.Face, o.Edge) {
			for k := range list {
				list[k] = 99*i + k
			}
			_ = append(list, -7)
		}
		for i, list := range slices.Concat(o.Face, o.Edge) {
			for k := range list {
				expect(t, "an element of a list", list[k], 99*i+k)
			}
		}
	}
}

func TestPart(t *testing.T) { // P11.2
	o := checkNew(t, square(0, 0, 8), square(2, 2, 4), dots(xy(1, 1)), line(xy(4, 0), xy(4, 8)))
	// The faces 1 and 3 are those left and right of the line, and 2 and 4 those within the second square.
	for _, c := range []struct {
		layer, face int
		want        string
	}{
		{0, 0, "[0]"}, {0, 1, "[1 2 3 4]"}, {1, 0, "[0 1 3]"}, {1, 1, "[2 4]"}, {2, 0, "[0 1 2 3 4]"}, {3, 0, "[0 1 2 3 4]"},
	} {
		part, e := overlay.Part(o, c.layer, c.face)
		expect(t, fmt.Sprint("Part of ", c.layer, c.face), fmt.Sprint(part, " ", e), fmt.Sprint(c.want, " ", api.OK))
	}
	for _, c := range [][2]int{
		{0, -1}, {0, 2}, {1, 2}, {2, 1}, {3, 1}, {3, -1}, {4, 0}, {-1, 0}, {-1, -1}, {0, math.MaxInt}, {0, math.MinInt}, {math.MaxInt, 0}, {math.MinInt, 0},
	} {
		part, e := overlay.Part(o, c[0], c[1])
		expect(t, fmt.Sprint("Part of ", c), fmt.Sprint(len(part), e), fmt.Sprint(0, api.ErrNone))
	}
}

func TestCommonAndFiner(t *testing.T) { // P11.3
	left := ring(xy(0, 0), xy(4, 0), xy(4, 8), xy(0, 8))
	o := checkNew(t, square(0, 0, 8), left, square(10, 0, 2), joined(square(0, 0, 8), square(10, 0, 2), left), overlay.Layer{}, square(2, 2, 4))
	for _, c := range []struct {
		a, b  int
		want  string
		finer bool
	}{
		{0, 0, "[[0 0] [1 1]]", true},
		{0, 1, "[[0 0] [1 0] [1 1]]", false},
		{1, 0, "[[0 0] [0 1] [1 1]]", false},
		{0, 2, "[[0 0] [0 1] [1 0]]", false},
		{2, 0, "[[0 0] [0 1] [1 0]]", false},
		{3, 0, "[[0 0] [1 1] [2 1] [3 0]]", true},
		{3, 1, "[[0 0] [1 1] [2 0] [3 0]]", true},
		{3, 2, "[[0 0] [1 0] [2 0] [3 1]]", true},
		{0, 3, "[[0 0] [0 3] [1 1] [1 2]]", false},
		{3, 3, "[[0 0] [1 1] [2 2] [3 3]]", true},
		{3, 4, "[[0 0] [1 0] [2 0] [3 0]]", true},
		{4, 4, "[[0 0]]", true},
		{4, 3, "[[0 0] [0 1] [0 2] [0 3]]", false},
		{5, 0, "[[0 0] [0 1] [1 1]]", false},
		{5, 1, "[[0 0] [0 1] [1 0] [1 1]]", false},
		{1, 5, "[[0 0] [0 1] [1 0] [1 1]]", false},
		{5, 4, "[[0 0] [1 0]]", true},
	} {
		pairs, e := overlay.Common(o, c.a, c.b)
		expect(t, fmt.Sprint("Common of ", c.a, c.b), fmt.Sprint(pairs, " ", e), fmt.Sprint(c.want, " ", api.OK))
		finer, e := overlay.Finer(o, c.a, c.b)
		expect(t, fmt.Sprint("Finer of ", c.a, c.b), fmt.Sprint(finer, e), fmt.Sprint(c.finer, api.OK))
	}
	for _, c := range [][2]int{{0, 6}, {6, 0}, {-1, 0}, {0, -1}, {6, 6}, {-1, 6}, {math.MinInt, 1}, {1, math.MaxInt}} {
		pairs, e := overlay.Common(o, c[0], c[1])
		expect(t, fmt.Sprint("Common of ", c), fmt.Sprint(len(pairs), e), fmt.Sprint(0, api.ErrNone))
		finer, e := overlay.Finer(o, c[0], c[1])
		expect(t, fmt.Sprint("Finer of ", c), fmt.Sprint(finer, e), fmt.Sprint(false, api.ErrNone))
	}
}

func TestQuestionsOfNoMaps(t *testing.T) { // P11.2, P11.3
	none, e := overlay.New(nil)
	expect(t, "New", e, api.OK)
	failed, _ := overlay.New(make([]overlay.Layer, 17))
	for _, o := range []overlay.Over{none, failed} {
		part, e := overlay.Part(o, 0, 0)
		expect(t, "Part", fmt.Sprint(len(part), e), fmt.Sprint(0, api.ErrNone))
		pairs, e := overlay.Common(o, 0, 0)
		expect(t, "Common", fmt.Sprint(len(pairs), e), fmt.Sprint(0, api.ErrNone))
		finer, e := overlay.Finer(o, 0, 0)
		expect(t, "Finer", fmt.Sprint(finer, e), fmt.Sprint(false, api.ErrNone))
	}
}

func FuzzAllArguments(f *testing.F) { // P1, P11.1 to P11.3
	f.Add([]byte{0, 0, 0, 8, 0, 0, 8, 0, 8, 8, 0, 8, 8, 0, 8, 0, 0, 8, 0, 0, 1, 4, 4, 12, 4, 1, 12, 4, 4, 12, 1, 4, 12, 4, 4}, 1, 0, 0, 0, 1)
	f.Add([]byte{0, 0, 0, 9, 9, 1, 0, 9, 9, 0, 2, 3, 3, 6, 6, 3, 3, 3, 0, 0, 19, 4, 4, 0, 0}, most/9, -most, 2, 1, 0)
	f.Add([]byte{16, 5, 5, 5, 5, 15, 5, 5, 6, 7}, 1, 0, 15, 15, 2)
	f.Add([]byte{3, 5, 5, 9, 5, 3, 255, 5, 6, 7}, most, math.MinInt, -1, math.MaxInt, math.MinInt)
	f.Fuzz(func(t *testing.T, code []byte, scale, shift, a, b, face int) {
		var maps []overlay.Layer
		for c := range slices.Chunk(code[:min(len(code), 100)/5*5], 5) { // 20 segments or points, each for a map
			p, q := xy(int(c[1])*scale+shift, int(c[2])*scale+shift), xy(int(c[3])*scale+shift, int(c[4])*scale+shift)
			k := int(c[0] % 20)
			maps = slices.Concat(maps, make([]overlay.Layer, max(0, k+1-len(maps))))
			if p == q && c[0] < 128 {
				maps[k].Points = append(maps[k].Points, p)
			} else {
				maps[k].Segs = append(maps[k].Segs, api.Seg{A: p, B: q})
			}
		}
		if e := errorOf(maps); e != api.OK {
			o, err := overlay.New(maps)
			expect(t, "the error of New", err, e)
			expectNothing(t, o)
			return
		}
		o := checkNew(t, maps...)
		checkQuestions(t, o, a, b, face)
		if len(maps) > 0 {
			checkQuestions(t, o, max(a%len(maps), 0), max(b%len(maps), 0), face%len(o.Face))
		}
	})
}

// errorOf returns the error of New by the words of P11.1.
func errorOf(maps []overlay.Layer) api.Errno {
	if len(maps) > 16 {
		return api.ErrLimit
	}
	for _, m := range append(slices.Clone(maps), joined(maps...)) {
		if _, e := arrange.New(m.Segs, m.Points); e != api.OK {
			return e
		}
	}
	return api.OK
}

// checkNew checks the overlay of maps, and returns it.
func checkNew(t *testing.T, maps ...overlay.Layer) overlay.Over {
	t.Helper()
	o, e := overlay.New(maps)
	expect(t, "the error of New", e, api.OK)
	checkOver(t, o, maps)
	for k := range maps {
		checkQuestions(t, o, k, len(maps)-1-k, k%3)
	}
	return o
}

// checkOver compares an overlay with the models of its maps.
func checkOver(t *testing.T, o overlay.Over, maps []overlay.Layer) {
	t.Helper()
	all := modelOf(joined(maps...))
	expect(t, "whether Arr is the arrangement of all maps", arrange.Equal(o.Arr, all.a), true)
	expect(t, "whether Faces are its faces", faces.Equal(o.Faces, all.f), true)
	expect(t, "the numbers of lists", fmt.Sprint(len(o.Face), len(o.Edge)), fmt.Sprint(len(o.Faces.Outer), len(o.Arr.E)))
	for _, list := range slices.Concat(o.Face, o.Edge) {
		expect(t, "the length of a list", len(list), len(maps))
	}
	var models []model
	for _, m := range maps {
		models = append(models, modelOf(m))
	}
	for i, on := range o.Edge {
		a, b := all.ends(i)
		for k, m := range models {
			want := append(m.edgesWith(a, b), -1)
			expect(t, "whether an edge lies on several edges of a map", len(want) > 2, false)
			expect(t, "the edge of a map on which an edge lies", on[k], want[0])
		}
	}
	for h, face := range o.Faces.Left { // points from all along the border of a face
		p := all.beside(h)
		for k, m := range models {
			expect(t, "the face of a map in which a face lies", o.Face[face][k], m.face(p))
		}
	}
	expect(t, "the faces outside", fmt.Sprint(o.Face[0]), fmt.Sprint(make([]int, len(maps))))
}

// checkQuestions compares Part, Common and Finer with what the lists of the overlay say.
func checkQuestions(t *testing.T, o overlay.Over, a, b, face int) {
	t.Helper()
	isMap := func(n int) bool { return 0 <= n && n < len(o.Face[0]) }
	var wantPart []int
	together := map[[2]int]bool{}
	for i, of := range o.Face {
		if isMap(a) && of[a] == face {
			wantPart = append(wantPart, i)
		}
		if isMap(a) && isMap(b) {
			together[[2]int{of[a], of[b]}] = true
		}
	}
	var wantPairs [][2]int
	wantFiner := isMap(a) && isMap(b)
	for i := range o.Face { // faces of maps have no greater numbers than those of the overlay
		found := 0
		for k := range o.Face {
			if together[[2]int{i, k}] {
				wantPairs = append(wantPairs, [2]int{i, k})
				found++
			}
		}
		wantFiner = wantFiner && found <= 1
	}
	partError, pairsError := api.OK, api.OK
	if wantPart == nil {
		partError = api.ErrNone
	}
	if wantPairs == nil {
		pairsError = api.ErrNone
	}
	part, e := overlay.Part(o, a, face)
	expect(t, fmt.Sprint("Part of ", a, face), fmt.Sprint(part, e), fmt.Sprint(wantPart, partError))
	pairs, e := overlay.Common(o, a, b)
	expect(t, fmt.Sprint("Common of ", a, b), fmt.Sprint(pairs, e), fmt.Sprint(wantPairs, pairsError))
	finer, e := overlay.Finer(o, a, b)
	expect(t, fmt.Sprint("Finer of ", a, b), fmt.Sprint(finer, e), fmt.Sprint(wantFiner, pairsError))
}

// expectNothing checks that an overlay is the zero one.
func expectNothing(t *testing.T, o overlay.Over) {
	t.Helper()
	lists := len(o.Arr.Segs) + len(o.Arr.Points) + len(o.Arr.V) + len(o.Arr.E) + len(o.Face) + len(o.Edge)
	f := o.Faces
	expect(t, "what New returns with an error", lists+len(f.Next)+len(f.Left)+len(f.Outer)+len(f.Inner)+len(f.Alone), 0)
}

func ratOfGrid(p api.Point) rat {
	return rat{times(one(), p.X), times(one(), p.Y)}
}

// expect reports a result that is not the expected one.
func expect[T comparable](t *testing.T, name string, got, want T) {
	t.Helper()
	if got != want {
		t.Fatalf("%s: %v, want %v", name, got, want)
	}
}
