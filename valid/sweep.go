package valid

import (
	"slices"
	"sort"

	"meresman/exact"
	"meresman/point"
)

// The functions of this file work on small vertices in order and on proper edges in order, on which exact.Side returns no error.

// sweep goes through the vertices in their order: from left to right, and upwards above one another.
type sweep struct {
	v      []point.P
	e      [][2]int
	across []int   // the edges that begin at a vertex that was reached and end at another one, the lowest first
	around [][]int // for each vertex the half-edges that begin there, counterclockwise: first those to greater vertices
	ground []int   // for each vertex the edge that runs nearest below it, or nothing
}

// swept returns a sweep that has reached all vertices, and true; or false, if an edge crosses another one, or a vertex lies on it
// that is not its end. Up to the first point where that is so, no two edges change places in the list of those across; and it is
// a vertex, or two edges that meet there are neighbours in the list just before: so the sweep never goes on beyond it.
func swept(v []point.P, e [][2]int) (*sweep, bool) {
	s := &sweep{v: v, e: e}
	begun := 0
	for at := range v {
		last := begun
		for last < len(e) && e[last][0] == at {
			last++
		}
		if !s.reach(at, s.fromBelow(begun, last)) {
			return nil, false
		}
		begun = last
	}
	return s, true
}

// reach goes on to the next vertex, at which the edges of a list begin; it reports whether nothing is wrong there, nor with edges
// that become neighbours.
func (s *sweep) reach(at int, rising []int) bool {
	low := sort.Search(len(s.across), func(i int) bool { return s.side(s.across[i], at) <= 0 })
	high := low
	for ; high < len(s.across) && s.side(s.across[high], at) == 0; high++ {
		if s.e[s.across[high]][1] != at {
			return false
		}
	}
	s.note(low, high, rising)
	s.across = slices.Replace(s.across, low, high, rising...)
	for i := max(low, 1); i <= low+len(rising) && i < len(s.across); i++ {
		if !s.apart(s.across[i-1], s.across[i]) {
			return false
		}
	}
	return true
}

// side tells on which side of an edge a vertex lies: 1 above it, -1 below, 0 on its line.
func (s *sweep) side(edge, v int) int {
	from, to := s.e[edge][0], s.e[edge][1]
	if v == to { // as it is for most edges that end, without any calculation
		return 0
	}
	side, _ := exact.Side(s.v[from], s.v[to], s.v[v])
	return side
}

// fromBelow returns the edges from begun to before last, which begin at the same vertex, the lowest one first.
func (s *sweep) fromBelow(begun, last int) []int {
	var list []int
	for i := begun; i < last; i++ {
		list = append(list, i)
	}
	slices.SortFunc(list, func(i, k int) int { return s.side(k, s.e[i][1]) })
	return list
}

// note keeps what lies around and below the next vertex, at which edges of a list begin, and those across from low to before high end.
func (s *sweep) note(low, high int, rising []int) {
	below := nothing
	if low > 0 {
		below = s.across[low-1]
	}
	s.ground = append(s.ground, below)
	var turn []int
	for _, edge := range rising {
		turn = append(turn, 2*edge)
	}
	for _, edge := range slices.Backward(s.across[low:high]) {
		turn = append(turn, 2*edge+1)
	}
	s.around = append(s.around, turn)
}

// apart reports whether an edge stays below another one up to the vertex where the first of both ends.
func (s *sweep) apart(low, high int) bool {
	a, b := s.e[low][1], s.e[high][1]
	switch {
	case a < b:
		return s.side(high, a) < 0
	case a > b:
		return s.side(low, b) > 0
	default:
		return true
	}
}
