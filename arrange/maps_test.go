package arrange_test

import (
	"math"
	"math/rand/v2"
	"slices"

	"meresman/api"
)

// The maps on which arrangements are tested.

// smallMap returns segments, at least one, and points of a small grid, some of them repeatedly.
func smallMap(source *rand.Rand) ([]api.Seg, []api.Point) {
	size := 3 + source.IntN(5)
	place := func() api.Point { return xy(source.IntN(size)-2, source.IntN(size)-2) }
	s := []api.Seg{seg(source.IntN(3), -1, 2, 0)}
	var points []api.Point
	for range source.IntN(9) {
		if r := (api.Seg{A: place(), B: place()}); r.A != r.B {
			s = append(s, r)
		}
	}
	for range source.IntN(5) {
		points = append(points, place())
	}
	if source.IntN(3) == 0 {
		r := s[source.IntN(len(s))]
		s = append(s, api.Seg{A: r.B, B: r.A})
	}
	return s, points
}

// someMap returns segments and points of all sizes, that often touch or lie along one another.
func someMap(source *rand.Rand) ([]api.Seg, []api.Point) {
	s := []api.Seg{someSegment(source)}
	var points []api.Point
	for range source.IntN(9) {
		r := someSegment(source)
		if source.IntN(2) == 0 {
			r.A = pointOn(source, s[source.IntN(len(s))])
		}
		if source.IntN(3) == 0 {
			on := s[source.IntN(len(s))]
			r = api.Seg{A: pointOn(source, on), B: pointOn(source, on)}
		}
		if r.A != r.B {
			s = append(s, r)
		}
	}
	for range source.IntN(5) {
		points = append(points, someGrid(source), pointOn(source, s[source.IntN(len(s))]))
	}
	return s, points
}

// pointOn returns a valid point of the grid on the line of a segment, mostly between its ends.
func pointOn(source *rand.Rand, s api.Seg) api.Point {
	x, y := s.B.X-s.A.X, s.B.Y-s.A.Y
	steps, rest := x, y
	for rest != 0 {
		steps, rest = rest, steps%rest
	}
	steps = max(steps, -steps)
	k := source.IntN(steps+3) - 1
	if p := xy(s.A.X+x/steps*k, s.A.Y+y/steps*k); isValid(p) {
		return p
	}
	return s.A
}

// someSegment returns a valid segment, often with a slope of small numbers.
func someSegment(source *rand.Rand) api.Seg {
	for {
		s := api.Seg{A: someGrid(source), B: someGrid(source)}
		if source.IntN(2) == 0 {
			k := 1 + source.IntN(most/5)
			s.B = xy(s.A.X+(source.IntN(9)-4)*k, s.A.Y+(source.IntN(9)-4)*k)
		}
		if s.A != s.B && isValid(s.B) {
			return s
		}
	}
}

// someGrid returns a valid point of the grid, often at the limits, or near (0, 0).
func someGrid(source *rand.Rand) api.Point {
	var l [2]int
	for i := range l {
		switch source.IntN(5) {
		case 0:
			l[i] = []int{-most, 1 - most, most - 1, most}[source.IntN(4)]
		case 1, 2:
			l[i] = source.IntN(7) - 3
		default:
			l[i] = source.IntN(2*most+1) - most
		}
	}
	return xy(l[0], l[1])
}

// smallSegments returns the segments between points from (0, 0) to (n - 1, n - 1).
func smallSegments(n int) []api.Seg {
	var list []api.Seg
	for i := range n * n {
		for k := range n * n {
			if i != k {
				list = append(list, seg(i/n, i%n, k/n, k%n))
			}
		}
	}
	return list
}

// fan returns n segments each of which crosses all others, each at a point of its own.
func fan(n int) []api.Seg {
	var list []api.Seg
	for i := range n {
		list = append(list, seg(-i*i-most/4, 1+i, most/4, n-2*i*i*i))
	}
	return list
}

// pencil returns n segments that meet in (0, 0).
func pencil(n int) []api.Seg {
	var list []api.Seg
	for i := range n {
		list = append(list, seg(i-n, -1-i, n-i, 1+i))
	}
	return list
}

// grid returns n segments across, and n that cross them.
func grid(n int) []api.Seg {
	var list []api.Seg
	for i := range n {
		list = append(list, seg(-1, 3*i, 3*n, 3*i), seg(3*i, -1, 3*i, 3*n))
	}
	return list
}

// row returns n points beside the grids, of which the first one is (-1, 1000).
func row(n int) []api.Point {
	var list []api.Point
	for i := range n {
		list = append(list, xy(-1-i, 1000))
	}
	return list
}

func repeated(s api.Seg, n int) []api.Seg {
	return slices.Repeat([]api.Seg{s}, n)
}

// farPoints returns points with a coordinate that is out of range.
func farPoints() []api.Point {
	var list []api.Point
	for _, far := range []int{most + 1, -most - 1, 1 << 32, math.MaxInt, math.MinInt} {
		list = append(list, xy(far, 0), xy(0, far), xy(far, far), xy(far, most), xy(-most, far))
	}
	return list
}
