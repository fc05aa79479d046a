package arrange_test

import (
	"math/big"
	"math/rand/v2"
	"slices"
	"testing"

	"meresman/api"
	"meresman/arrange"
	"meresman/point"
)

func TestProper(t *testing.T) { // P8.5
	source := rand.New(rand.NewPCG(8, 6))
	for range 300 {
		for _, of := range []func(*rand.Rand) ([]api.Seg, []api.Point){smallMap, someMap} {
			s, points := of(source)
			a := newArr(t, s, points)
			checkEdges(t, a)
			for i := range s {
				checkUnion(t, a, i)
			}
		}
	}
}

// checkEdges checks that no edge has a point in common with another one or with a vertex, but its ends.
func checkEdges(t *testing.T, a arrange.Arr) {
	t.Helper()
	var v []rats
	for _, p := range a.V {
		v = append(v, ratsOf(p))
	}
	for i, e := range a.E {
		for k, p := range v {
			if k != e.A && k != e.B && onSegment(v[e.A], v[e.B], p) {
				t.Errorf("the vertex %d lies within the edge %d", k, i)
			}
		}
		for k, f := range a.E[:i] {
			for _, p := range common(v[e.A], v[e.B], v[f.A], v[f.B]) {
				at := slices.IndexFunc(v, func(q rats) bool { return compareRats(p, q) == 0 })
				if at != e.A && at != e.B || at != f.A && at != f.B {
					t.Errorf("the edges %d and %d have %s in common", i, k, ratsText(p))
				}
			}
		}
	}
}

// checkUnion checks that the edges that name a segment lead from its one end to the other one.
func checkUnion(t *testing.T, a arrange.Arr, segment int) {
	t.Helper()
	from, to := point.Of(a.Segs[segment].A), point.Of(a.Segs[segment].B)
	if point.Compare(from, to) > 0 {
		from, to = to, from
	}
	first, found := arrange.Vertex(a, from)
	expectVertex(t, first, found, first)
	at := first
	for _, e := range a.E {
		if slices.Contains(e.Of, segment) {
			expect(t, "the next edge of a segment", e.A, api.OK, at, api.OK)
			if !onSegment(ratsOf(from), ratsOf(to), ratsOf(a.V[e.B])) {
				t.Errorf("an edge leads away from the segment %d", segment)
			}
			at = e.B
		}
	}
	last, found := arrange.Vertex(a, to)
	expectVertex(t, last, found, at)
}

func TestOrder(t *testing.T) { // P8.6
	source := rand.New(rand.NewPCG(8, 7))
	for range 300 {
		s, points := smallMap(source)
		a := newArr(t, s, points)
		var other []api.Seg
		from := source.Perm(len(s)) // which segment each of the other ones is
		for range source.IntN(4) * len(s) / 3 {
			from = append(from, source.IntN(len(s)))
		}
		for _, i := range from {
			r := s[i]
			if source.IntN(2) == 0 {
				r.A, r.B = r.B, r.A
			}
			other = append(other, r)
		}
		source.Shuffle(len(points), func(i, k int) { points[i], points[k] = points[k], points[i] })
		b := newArr(t, other, points)
		expect(t, "the vertices", verticesText(b.V), api.OK, verticesText(a.V), api.OK)
		checkSameEdges(t, b, a, from)
	}
}

// checkSameEdges checks that both arrangements have the same edges, where from says which segment of a each one of b is.
func checkSameEdges(t *testing.T, b, a arrange.Arr, from []int) {
	t.Helper()
	expect(t, "the number of edges", len(b.E), api.OK, len(a.E), api.OK)
	for i, e := range b.E {
		var of []int
		for k, n := range e.Of {
			of = append(of, from[n])
			if k > 0 && e.Of[k-1] >= n {
				t.Errorf("the segments of an edge are %v", e.Of)
			}
		}
		slices.Sort(of)
		f := a.E[i]
		expect(t, "an edge", edgeText(e.A, e.B, slices.Compact(of), e.Dir), api.OK, edgeText(f.A, f.B, f.Of, f.Dir), api.OK)
	}
}

func TestScaled(t *testing.T) { // P8.7
	source := rand.New(rand.NewPCG(8, 8))
	for range 200 {
		s, points := smallMap(source)
		k := 1 + source.IntN(most/6)
		shift := xy(source.IntN(most/5)-most/10, source.IntN(most/5)-most/10)
		scaled := func(p api.Point) api.Point { return xy(p.X*k+shift.X, p.Y*k+shift.Y) }
		var s2 []api.Seg
		var points2 []api.Point
		for _, r := range s {
			s2 = append(s2, api.Seg{A: scaled(r.A), B: scaled(r.B)})
		}
		for _, p := range points {
			points2 = append(points2, scaled(p))
		}
		if inputError(s2, points2) != api.OK {
			continue
		}
		a, b := newArr(t, s, points), newArr(t, s2, points2)
		expect(t, "the number of vertices", len(b.V), api.OK, len(a.V), api.OK)
		for v := range a.V {
			p := along(gridRats(shift), ratsOf(a.V[v]), big.NewRat(int64(k), 1))
			expect(t, "a vertex", ratsText(ratsOf(b.V[v])), api.OK, ratsText(p), api.OK)
			want, e := arrange.Around(a, v)
			got, e2 := arrange.Around(b, v)
			expect(t, "Around", intsText(got...), e2, intsText(want...), e)
		}
		a.V, b.V = nil, nil
		expect(t, "the edges", arrText(b), api.OK, arrText(a), api.OK)
	}
}

func TestDivided(t *testing.T) { // P8.8
	source := rand.New(rand.NewPCG(8, 9))
	divided := 0
	for range 1500 {
		s, points := smallMap(source)
		a := newArr(t, s, points)
		for _, p := range a.V {
			grid, whole := point.Whole(p)
			i := source.IntN(len(s))
			if !whole || grid == s[i].A || grid == s[i].B || !onSegment(gridRats(s[i].A), gridRats(s[i].B), gridRats(grid)) {
				continue
			}
			parts := slices.Clone(s)
			parts[i].B = grid
			parts = append(parts, api.Seg{A: s[i].B, B: grid})
			from := []int{}
			for n := range s {
				from = append(from, n)
			}
			b := newArr(t, parts, points)
			expect(t, "the vertices", verticesText(b.V), api.OK, verticesText(a.V), api.OK)
			checkSameEdges(t, b, a, append(from, i))
			divided++
		}
	}
	if divided < 100 {
		t.Errorf("only %d segments were divided", divided)
	}
}

func TestArgumentsStayAsTheyAre(t *testing.T) { // R1, R3
	s := []api.Seg{seg(4, 4, 0, 0), seg(0, 4, 4, 0), seg(0, 0, 2, 2), seg(4, 1, 0, 4), seg(9, 9, 9, 8)}
	points := []api.Point{xy(3, 3), xy(1, 1), xy(7, 7)}
	kept, keptPoints := slices.Clone(s), slices.Clone(points)
	a := newArr(t, s[:4], points[:2])
	want := arrange.Encode(a)
	if !slices.Equal(s, kept) || !slices.Equal(points, keptPoints) {
		t.Errorf("the arguments have changed to %v and %v", s, points)
	}
	s[0], points[0] = seg(5, 5, 6, 6), xy(8, 8) // which the arrangement does not keep
	expect(t, "the arrangement", string(arrange.Encode(a)), api.OK, string(want), api.OK)
	b, e := arrange.Add(a, seg(2, 2, 0, 0))
	for i := range b.Segs {
		b.Segs[i] = api.Seg{}
	}
	for i := range b.Points {
		b.Points[i] = api.Point{}
	}
	for i := range b.V {
		b.V[i] = point.P{}
	}
	for i := range b.E {
		for k := range b.E[i].Of {
			b.E[i].Of[k] = -1
		}
	}
	expect(t, "the arrangement", string(arrange.Encode(a)), e, string(want), api.OK)
	for i := range a.E { // no list shares memory with another one
		_ = append(a.E[i].Of, -1, -1, -1)
	}
	_ = append(a.Segs, seg(0, 0, 0, 0))
	list, e := arrange.Around(a, 0)
	for i := range list {
		list[i] = -1
	}
	bytes := arrange.Encode(a)
	expect(t, "the arrangement", string(bytes), e, string(want), api.OK)
	for i := range bytes {
		bytes[i] = 0
	}
	for range 5 {
		again := newArr(t, kept[:4], keptPoints[:2])
		expect(t, "the same arrangement", string(arrange.Encode(again)), api.OK, string(want), api.OK)
	}
}
