package arrange_test

import (
	"math"
	"math/big"
	"math/rand/v2"
	"slices"
	"testing"

	"meresman/api"
	"meresman/arrange"
	"meresman/point"
	"meresman/wire"
)

// Expected results are those of the model, or stand in the text of the chapter.

const most, maxVertices = api.MaxCoord, 4096

func TestExamples(t *testing.T) {
	a := checkNew(t, []api.Seg{seg(0, 0, 2, 2), seg(0, 1, 2, 1)}, nil)
	expect(t, "New", arrText(a), api.OK, "0 0, 0 1, 1 1, 2 1, 2 2; 0 2: 0, 1 1; 1 2: 1, 1 0; 2 3: 1, 1 0; 2 4: 0, 1 1", api.OK)
	list, e := arrange.Around(a, 2)
	expect(t, "Around", intsText(list...), e, "4 6 3 1", api.OK)
	a = checkNew(t, []api.Seg{seg(0, 0, 3, 1), seg(0, 1, 2, 0)}, nil) // of the whole document
	expect(t, "New", arrText(a), api.OK, "0 0, 0 1, 6/5 2/5, 2 0, 3 1; 0 2: 0, 3 1; 1 2: 1, 2 -1; 2 3: 1, 2 -1; 2 4: 0, 3 1", api.OK)
}

func TestNew(t *testing.T) { // P8.1
	for _, c := range []struct {
		s      []api.Seg
		points []api.Point
		want   string
	}{
		{nil, nil, ""},
		{nil, []api.Point{xy(3, 1), xy(-2, 5), xy(3, 0), xy(3, 1)}, "-2 5, 3 0, 3 1"},
		{[]api.Seg{seg(4, 2, 0, 0)}, nil, "0 0, 4 2; 0 1: 0, 2 1"},
		{[]api.Seg{seg(4, 2, 0, 0)}, []api.Point{xy(2, 1), xy(1, 1), xy(4, 2)}, "0 0, 1 1, 2 1, 4 2; 0 2: 0, 2 1; 2 3: 0, 2 1"},
		{[]api.Seg{seg(0, 6, 0, 0)}, nil, "0 0, 0 6; 0 1: 0, 0 1"},
		{[]api.Seg{seg(7, 0, 0, 0)}, nil, "0 0, 7 0; 0 1: 0, 1 0"},
		{[]api.Seg{seg(0, 6, 9, 0)}, nil, "0 6, 9 0; 0 1: 0, 3 -2"},
		{[]api.Seg{seg(0, 0, 4, 0), seg(6, 0, 2, 0)}, nil, "0 0, 2 0, 4 0, 6 0; 0 1: 0, 1 0; 1 2: 0 1, 1 0; 2 3: 1, 1 0"},
		{[]api.Seg{seg(0, 0, 4, 0), seg(1, 0, 3, 0), seg(3, 0, 0, 0)}, nil, "0 0, 1 0, 3 0, 4 0; 0 1: 0 2, 1 0; 1 2: 0 1 2, 1 0; 2 3: 0, 1 0"},
		{[]api.Seg{seg(0, 0, 1, 1), seg(1, 1, 0, 0), seg(0, 0, 1, 1)}, nil, "0 0, 1 1; 0 1: 0 1 2, 1 1"},
		{[]api.Seg{seg(0, 0, 2, 0), seg(2, 0, 4, 0), seg(5, 0, 6, 0)}, nil, "0 0, 2 0, 4 0, 5 0, 6 0; 0 1: 0, 1 0; 1 2: 1, 1 0; 3 4: 2, 1 0"},
		{[]api.Seg{seg(0, 0, 4, 4), seg(0, 4, 4, 0), seg(2, 0, 2, 4), seg(0, 2, 4, 2)}, nil, "0 0, 0 2, 0 4, 2 0, 2 2, 2 4, 4 0, 4 2, 4 4; " +
			"0 4: 0, 1 1; 1 4: 3, 1 0; 2 4: 1, 1 -1; 3 4: 2, 0 1; 4 5: 2, 0 1; 4 6: 1, 1 -1; 4 7: 3, 1 0; 4 8: 0, 1 1"},
		{[]api.Seg{seg(0, 0, 2, 2), seg(0, 1, 1, 0), seg(2, 0, 1, 0)}, []api.Point{xy(1, 0), xy(1, 1)},
			"0 0, 0 1, 1/2 1/2, 1 0, 1 1, 2 0, 2 2; 0 2: 0, 1 1; 1 2: 1, 1 -1; 2 3: 1, 1 -1; 2 4: 0, 1 1; 3 5: 2, 1 0; 4 6: 0, 1 1"},
		{[]api.Seg{seg(9, 0, 10, 0), seg(10, 7, 9, 7)}, []api.Point{xy(100, 0), xy(-1, 0)}, "-1 0, 9 0, 9 7, 10 0, 10 7, 100 0; 1 3: 0, 1 0; 2 4: 1, 1 0"},
		{[]api.Seg{seg(-most, -most, most, most), seg(-most, most, most, 1-most)}, nil, "-1073741824 -1073741824, -1073741824 1073741824, " +
			"1073741824/4294967295 1073741824/4294967295, 1073741824 -1073741823, 1073741824 1073741824; " +
			"0 2: 0, 1 1; 1 2: 1, 2147483648 -2147483647; 2 3: 1, 2147483648 -2147483647; 2 4: 0, 1 1"},
	} {
		a := checkNew(t, c.s, c.points)
		expect(t, "New", arrText(a), api.OK, c.want, api.OK)
	}
}

func TestNewOfSmallMaps(t *testing.T) { // P8.1: all pairs of segments of a small grid, and many greater maps
	list := smallSegments(3)
	for _, s := range list {
		for _, r := range list {
			checkNew(t, []api.Seg{s, r}, []api.Point{xy(1, 1)})
		}
	}
	source := rand.New(rand.NewPCG(8, 1))
	for range 300 {
		s, points := smallMap(source)
		checkNew(t, s, points)
	}
}

func TestNewOfManySizes(t *testing.T) { // P8.1
	source := rand.New(rand.NewPCG(8, 2))
	crossings, shared := 0, 0
	for range 600 {
		s, points := someMap(source)
		a := checkNew(t, s, points)
		for _, p := range a.V {
			if _, whole := point.Whole(p); !whole {
				crossings++
			}
		}
		for _, edge := range a.E {
			shared += len(edge.Of) - 1
		}
	}
	if crossings < 300 || shared < 300 {
		t.Errorf("only %d crossings, and %d edges on several segments", crossings, shared)
	}
}

func TestErrorsOfNew(t *testing.T) { // P8.1: the first one is returned
	good, equal, far := seg(0, 0, 4, 4), seg(1, 1, 1, 1), seg(0, 0, 0, -most-1)
	tooMany, over := repeated(equal, api.MaxSegs+1), slices.Repeat([]api.Point{xy(most+1, 0)}, api.MaxPoints+1)
	for _, c := range []struct {
		s      []api.Seg
		points []api.Point
		want   api.Errno
	}{
		{tooMany, nil, api.ErrLimit},
		{tooMany, over, api.ErrLimit},
		{[]api.Seg{equal}, over, api.ErrLimit},
		{nil, over, api.ErrLimit},
		{tooMany[1:], over[1:], api.ErrArg},
		{[]api.Seg{good, equal, far}, over[1:], api.ErrArg},
		{[]api.Seg{good, far, equal}, over[1:], api.ErrRange},
		{[]api.Seg{good, good, {A: xy(most+1, 0), B: xy(most+1, 0)}}, nil, api.ErrRange},
		{[]api.Seg{good}, []api.Point{xy(0, 0), xy(most, most), xy(0, most+1)}, api.ErrRange},
		{fan(92), []api.Point{xy(0, -most-1)}, api.ErrRange},
		{append(fan(92), equal), nil, api.ErrArg},
		{append(fan(92), far), nil, api.ErrRange},
		{repeated(good, api.MaxSegs), slices.Repeat([]api.Point{xy(7, 7)}, api.MaxPoints), api.OK},
	} {
		a, e := arrange.New(c.s, c.points)
		expect(t, "New", c.want == api.OK || isZero(a), e, true, c.want)
	}
	for _, p := range farPoints() {
		for _, bad := range []api.Seg{{A: p}, {B: p}, {A: p, B: p}, {A: xy(most, most), B: p}} {
			a, e := arrange.New([]api.Seg{good, bad, equal}, nil)
			expect(t, "New", isZero(a), e, true, api.ErrRange)
		}
		a, e := arrange.New([]api.Seg{good}, []api.Point{xy(1, 2), p})
		expect(t, "New", isZero(a), e, true, api.ErrRange)
	}
}

func TestLimits(t *testing.T) { // P8.1: of segments, points and vertices
	lines := grid(62) // 62 * 62 crossings, and 4 * 62 ends
	for extra := range 8 {
		a, e := arrange.New(lines, row(extra))
		if extra > 4 {
			expect(t, "New of too many vertices", isZero(a), e, true, api.ErrLimit)
			continue
		}
		expect(t, "the vertices", len(a.V), e, maxVertices-4+extra, api.OK)
		expect(t, "the edges", len(a.E), e, 2*62*63, api.OK)
	}
	a, e := arrange.New(lines, append(row(4), row(4)[0], lines[0].A, lines[61].B)) // which are no more vertices
	expect(t, "the vertices of repeated points", len(a.V), e, maxVertices, api.OK)
	for _, s := range [][]api.Seg{fan(92), fan(200), fan(api.MaxSegs), append(grid(62), fan(5)...), grid(64), grid(256)} {
		a, e := arrange.New(s, nil)
		expect(t, "New of too many vertices", isZero(a), e, true, api.ErrLimit)
	}
	a, e = arrange.New(fan(80), nil)
	expect(t, "the vertices of a fan", len(a.V), e, 80*79/2+160, api.OK)
	a, e = arrange.New(pencil(api.MaxSegs), row(api.MaxPoints)) // with 131,000 pairs that meet, but at one point
	expect(t, "the vertices of a pencil", len(a.V), e, 2*api.MaxSegs+1+api.MaxPoints, api.OK)
	expect(t, "the edges of a pencil", len(a.E), e, 2*api.MaxSegs, api.OK)
	a, e = arrange.New(append(repeated(seg(-5, -5, 5, 5), 440), fan(72)...), nil)
	expect(t, "the edges of repeated segments", len(a.E) > 72*72, e, true, api.OK)
}

func TestAdd(t *testing.T) { // P8.2
	source := rand.New(rand.NewPCG(8, 3))
	for range 50 {
		s, points := smallMap(source)
		a, e := arrange.New(nil, points)
		for i := range s {
			before := arrange.Encode(a)
			next, e2 := arrange.Add(a, s[i])
			want, e3 := arrange.New(s[:i+1], points)
			expect(t, "Add", arrange.Equal(next, want) && e == api.OK, e2, true, e3)
			expect(t, "what is added to", slices.Equal(before, arrange.Encode(a)), e2, true, api.OK)
			a = next
		}
		checkArr(t, a, s, points)
	}
	a, e := arrange.Add(arrange.Arr{}, seg(2, 4, 0, 0))
	expect(t, "Add to the zero Arr", arrText(a), e, "0 0, 2 4; 0 1: 0, 1 2", api.OK)
	first, e := arrange.Add(a, seg(2, 0, 0, 4))
	second, e2 := arrange.Add(a, seg(9, 9, 8, 8)) // which does not change the first one
	checkArr(t, first, []api.Seg{seg(2, 4, 0, 0), seg(2, 0, 0, 4)}, nil)
	checkArr(t, second, []api.Seg{seg(2, 4, 0, 0), seg(9, 9, 8, 8)}, nil)
	expect(t, "Add", e, e2, api.OK, api.OK)
	a.Segs = append(a.Segs, seg(5, 5, 6, 6))[:1]
	_, e = arrange.Add(a, seg(2, 0, 0, 4))
	expect(t, "what lies behind the segments", a.Segs[:2][1], e, seg(5, 5, 6, 6), api.OK)
}

func TestErrorsOfAdd(t *testing.T) { // P8.2
	a := newArr(t, []api.Seg{seg(0, 0, 4, 0)}, []api.Point{xy(1, 0)})
	for _, c := range []struct {
		s    api.Seg
		want api.Errno
	}{
		{seg(1, 1, 1, 1), api.ErrArg},
		{seg(0, 0, 0, most+1), api.ErrRange},
		{seg(-most-1, 0, -most-1, 0), api.ErrRange},
	} {
		for _, arr := range []arrange.Arr{a, {}} {
			got, e := arrange.Add(arr, c.s)
			expect(t, "Add", isZero(got), e, true, c.want)
		}
	}
	full, many := newArr(t, repeated(seg(0, 0, 1, 0), api.MaxSegs), nil), newArr(t, grid(62), row(4))
	for _, s := range []api.Seg{seg(0, 0, 1, 0), seg(1, 1, 1, 1)} {
		got, e := arrange.Add(full, s)
		expect(t, "Add to too many", isZero(got), e, true, api.ErrLimit)
	}
	got, e := arrange.Add(many, seg(-most, 0, -most, 1))
	expect(t, "Add of too many vertices", isZero(got), e, true, api.ErrLimit)
	got, e = arrange.Add(many, many.Segs[3])
	expect(t, "Add of a segment that is there", len(got.V), e, maxVertices, api.OK)
}

func TestVertex(t *testing.T) { // P8.2
	v, found := arrange.Vertex(arrange.Arr{}, point.P{})
	expectVertex(t, v, found, -1)
	source := rand.New(rand.NewPCG(8, 4))
	for i := range 200 {
		s, points := smallMap(source)
		if i%2 == 0 {
			s, points = someMap(source)
		}
		a := newArr(t, s, points)
		for i, p := range a.V {
			v, found = arrange.Vertex(a, p)
			expectVertex(t, v, found, i)
			v, found = arrange.Vertex(a, of(t, ratsOf(p))) // an equal point, made anew
			expectVertex(t, v, found, i)
		}
		for _, p := range a.V {
			near := ratsOf(p)
			k := source.IntN(2)
			near[k].Add(near[k], new(big.Rat).SetFrac(big.NewInt(source.Int64N(2)*2-1), new(big.Int).Lsh(big.NewInt(1), 100)))
			v, found = arrange.Vertex(a, of(t, near))
			expectVertex(t, v, found, -1)
		}
	}
	long := new(big.Int).Lsh(big.NewInt(1), 16383)
	a := newArr(t, grid(3), nil)
	for _, x := range []string{"0", "5", "-9", "1/" + long.String(), "-" + long.String(), long.String() + "/3"} {
		for _, y := range []string{"1/3", "-1/" + long.String(), long.String(), "777"} {
			v, found = arrange.Vertex(a, at(t, x, y))
			expectVertex(t, v, found, -1)
		}
	}
}

func TestAround(t *testing.T) { // P8.3
	s := []api.Seg{
		seg(0, 0, -3, 0), seg(0, 0, 0, -3), seg(0, 0, 3, 0), seg(0, 0, 0, 3),
		seg(0, 0, 3, 3), seg(0, 0, -3, -3), seg(0, 0, -3, 3), seg(3, -3, 0, 0), seg(0, 0, 3, 1), seg(0, 0, 3, -1),
	}
	a := checkNew(t, s, []api.Point{xy(7, 7)})
	v, _ := arrange.Vertex(a, point.Of(xy(0, 0)))
	list, e := arrange.Around(a, v)
	var segments []int
	for _, h := range list {
		segments = append(segments, a.E[h/2].Of...)
	}
	expect(t, "Around", intsText(segments...), e, "2 8 4 3 6 0 5 1 7 9", api.OK)
	list, e = arrange.Around(a, len(a.V)-1)
	expect(t, "Around of an isolated vertex", intsText(list...), e, "", api.OK)
	for _, v := range []int{-1, len(a.V), len(a.V) + 1, math.MaxInt, math.MinInt} {
		list, e = arrange.Around(a, v)
		expect(t, "Around of no vertex", len(list), e, 0, api.ErrNone)
	}
	list, e = arrange.Around(arrange.Arr{}, 0)
	expect(t, "Around of the zero Arr", len(list), e, 0, api.ErrNone)
	near := []api.Seg{ // whose directions hardly differ, up to the limits
		seg(-most, -most, most, most), seg(-most, -most, most, most-1), seg(-most, -most, most-1, most), seg(-most, -most, most-1, most-2),
		seg(most-1, most, -most, 1-most), seg(most, most, -most, most-1), seg(most, most, 1-most, -most), seg(most, most, most-1, -most), seg(most, most, most, -most),
	}
	checkNew(t, near, nil)
}

func TestEncode(t *testing.T) { // P8.4
	a, e := arrange.New([]api.Seg{seg(2, 1, 0, 0), seg(0, 1, 1, 0), seg(2, 1, 0, 0)}, []api.Point{xy(-1, 64)})
	want := []byte{
		6, 4, 2, 0, 0, 0, 2, 2, 0, 4, 2, 0, 0, // segments
		2, 1, 128, 1, // points
		12, // vertices
		6, 2, '-', '1', 2, '6', '4',
		4, 1, '0', 1, '0',
		4, 1, '0', 1, '1',
		8, 3, '2', '/', '3', 3, '1', '/', '3',
		4, 1, '1', 1, '0',
		4, 1, '2', 1, '1',
		8, // edges
		2, 6, 2, 0, 4, 4, 2,
		4, 6, 1, 2, 2, 1,
		6, 8, 1, 2, 2, 1,
		6, 10, 2, 0, 4, 4, 2,
	}
	expect(t, "Encode", string(arrange.Encode(a)), e, string(want), api.OK)
	expect(t, "Encode of the zero Arr", string(arrange.Encode(arrange.Arr{})), e, "\x00\x00\x00\x00", api.OK)
	source := rand.New(rand.NewPCG(8, 5))
	for range 100 {
		s, points := someMap(source)
		checkArr(t, decoded(t, arrange.Encode(newArr(t, s, points))), s, points)
	}
}

func TestEqual(t *testing.T) { // P8.4
	s, points := []api.Seg{seg(0, 0, 4, 4), seg(0, 4, 4, 0), seg(0, 4, 4, 1)}, []api.Point{xy(2, 2), xy(1, 1), xy(9, 9)}
	base, again := newArr(t, s, points), newArr(t, slices.Clone(s), slices.Clone(points))
	expect(t, "Equal", arrange.Equal(base, again), api.OK, true, api.OK)
	expect(t, "Equal of zero ones", arrange.Equal(arrange.Arr{}, arrange.Arr{}), api.OK, true, api.OK)
	expect(t, "Equal of empty ones", arrange.Equal(newArr(t, []api.Seg{}, []api.Point{}), arrange.Arr{}), api.OK, true, api.OK) // R3
	expect(t, "Equal to the zero Arr", arrange.Equal(base, arrange.Arr{}), api.OK, false, api.OK)
	for _, other := range []struct {
		s      []api.Seg
		points []api.Point
	}{
		{s[:2], points},
		{s, points[:2]},
		{s, nil},
		{[]api.Seg{s[1], s[0], s[2]}, points},
		{[]api.Seg{s[0], s[1], {A: s[2].B, B: s[2].A}}, points},
		{s, []api.Point{points[1], points[0], points[2]}},
		{s, append(slices.Clone(points), points[0])},
		{append(slices.Clone(s), s[2]), points},
		{[]api.Seg{s[0], s[1], seg(0, 4, 4, 2)}, points},
		{s, []api.Point{points[0], points[1], xy(9, 10)}},
	} {
		a, e := arrange.New(other.s, other.points)
		expect(t, "Equal to another one", arrange.Equal(base, a), e, false, api.OK)
		expect(t, "Equal from another one", arrange.Equal(a, base), e, false, api.OK)
	}
}

func FuzzAllArguments(f *testing.F) { // P1, P8.1 to P8.4
	f.Add([]byte{0, 0, 6, 6, 6, 0, 0, 6}, []byte{3, 3}, 1, 0, 2)
	f.Add([]byte{0, 0, 6, 6, 6, 0, 0, 6, 3, 3, 3, 3}, []byte(nil), most/255, -1, 0)
	f.Add([]byte{0, 0, 255, 255, 255, 0, 0, 254, 1, 1, 7, 7}, []byte{5, 5, 255, 255}, 4210752, -most, 3)
	f.Add([]byte{1, 2, 3, 4, 4, 3, 2, 1}, []byte{1}, math.MaxInt, math.MinInt, math.MaxInt)
	f.Fuzz(func(t *testing.T, ends, marks []byte, scale, shift, v int) {
		place := func(b []byte) api.Point { return xy(int(b[0])*scale+shift, int(b[1])*scale+shift) }
		var s []api.Seg
		var points []api.Point
		for b := range slices.Chunk(ends[:min(len(ends), 60)/4*4], 4) {
			s = append(s, api.Seg{A: place(b[:2]), B: place(b[2:])})
		}
		for b := range slices.Chunk(marks[:min(len(marks), 20)/2*2], 2) {
			points = append(points, place(b))
		}
		a := checkNew(t, s, points)
		around, e := arrange.Around(a, v)
		if none := v < 0 || v >= len(a.V); none != (e == api.ErrNone) || none && len(around) > 0 {
			t.Errorf("Around of %d of %d vertices: %v, error %d", v, len(a.V), around, e)
		}
		if len(s) > 0 {
			last := len(s) - 1
			first, _ := arrange.New(s[:last], points)
			got, e := arrange.Add(first, s[last])
			if want := inputError(s[last:], nil); want != api.OK {
				expect(t, "Add", isZero(got), e, true, want)
			} else if inputError(s, points) == api.OK {
				expect(t, "Add", arrange.Equal(got, a), e, true, api.OK)
			}
		}
	})
}

// checkNew checks New, and returns its result.
func checkNew(t *testing.T, s []api.Seg, points []api.Point) arrange.Arr {
	t.Helper()
	a, e := arrange.New(s, points)
	if want := inputError(s, points); want != api.OK {
		expect(t, "New", isZero(a), e, true, want)
		return a
	}
	expect(t, "New", 0, e, 0, api.OK)
	checkArr(t, a, s, points)
	return a
}

// checkArr checks an arrangement, and Vertex and Around of all of its vertices.
func checkArr(t *testing.T, a arrange.Arr, s []api.Seg, points []api.Point) {
	t.Helper()
	if !slices.Equal(a.Segs, s) || !slices.Equal(a.Points, points) {
		t.Fatalf("the arrangement is that of %v and %v, not of %v and %v", a.Segs, a.Points, s, points)
	}
	m := modelOf(s, points)
	expect(t, "the arrangement", arrText(a), api.OK, m.text(), api.OK)
	for v := range a.V {
		list, e := arrange.Around(a, v)
		expect(t, "Around", intsText(list...), e, intsText(m.around(v)...), api.OK)
	}
}

// inputError returns the first error of the segments and points.
func inputError(s []api.Seg, points []api.Point) api.Errno {
	for _, r := range s {
		if !isValid(r.A) || !isValid(r.B) {
			return api.ErrRange
		}
		if r.A == r.B {
			return api.ErrArg
		}
	}
	for _, p := range points {
		if !isValid(p) {
			return api.ErrRange
		}
	}
	return api.OK
}

func isValid(p api.Point) bool {
	return -most <= p.X && p.X <= most && -most <= p.Y && p.Y <= most
}

// decoded returns the arrangement that is read from an encoding, of which there is just one for each.
func decoded(t *testing.T, b []byte) arrange.Arr {
	t.Helper()
	var a arrange.Arr
	r := wire.Read(b)
	place := func() api.Point { return api.Point{X: r.Int(), Y: r.Int()} }
	for range r.Int() {
		a.Segs = append(a.Segs, api.Seg{A: place(), B: place()})
	}
	for range r.Int() {
		a.Points = append(a.Points, place())
	}
	for range r.Int() {
		p, e := point.Decode(r.Raw())
		expect(t, "Decode of a vertex", 0, e, 0, api.OK)
		a.V = append(a.V, p)
	}
	for range r.Int() {
		a.E = append(a.E, arrange.Edge{A: r.Int(), B: r.Int(), Of: r.Ints(), Dir: place()})
	}
	expect(t, "the end of an encoding", 0, r.End(), 0, api.OK)
	return a
}

// expectVertex reports a result of Vertex that is not the expected one, or, for -1, not that for no vertex.
func expectVertex(t *testing.T, v int, found bool, want int) {
	t.Helper()
	if found != (want >= 0) || v != max(want, 0) {
		t.Fatalf("Vertex: %d, %v, want %d", v, found, want)
	}
}

// expect reports a result or an error that is not the expected one.
func expect[T comparable](t *testing.T, name string, got T, e api.Errno, want T, errno api.Errno) {
	t.Helper()
	if got != want || e != errno {
		t.Fatalf("%.120s: %v, error %d, want %v, error %d", name, got, e, want, errno)
	}
}

func newArr(t *testing.T, s []api.Seg, points []api.Point) arrange.Arr {
	t.Helper()
	a, e := arrange.New(s, points)
	if e != api.OK {
		t.Fatalf("New: error %d", e)
	}
	return a
}

func isZero(a arrange.Arr) bool {
	return len(a.Segs) == 0 && len(a.Points) == 0 && len(a.V) == 0 && len(a.E) == 0
}

func xy(x, y int) api.Point {
	return api.Point{X: x, Y: y}
}

func seg(x, y, x2, y2 int) api.Seg {
	return api.Seg{A: xy(x, y), B: xy(x2, y2)}
}
