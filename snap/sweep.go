package snap

import (
	"slices"
	"sort"
)

// sweep goes through the vertices of a drawing in their order: from left to right, and upwards above one another.
type sweep struct {
	spots  []spot // of the vertices, all of which are different
	order  []int  // their numbers in the order of the points
	rank   []int  // where they stand in order
	rising [][]int
	across [][2]int // the edges from a vertex that was reached to one that was not, the lowest first
}

// newSweep returns a sweep that has reached no vertex.
func newSweep(spots []spot, edges [][2]int, order []int) *sweep {
	s := &sweep{spots: spots, order: order, rank: make([]int, len(spots)), rising: make([][]int, len(spots))}
	for i, v := range order {
		s.rank[v] = i
	}
	for _, ends := range edges {
		from, to := ends[0], ends[1]
		if s.rank[from] > s.rank[to] {
			from, to = to, from
		}
		s.rising[from] = append(s.rising[from], to)
	}
	return s
}

// turns returns the neighbours of each vertex, counterclockwise from the lowest one to the right, and true; or false, if an edge has
// more than a common end in common with another one, or a vertex lies on it that is not its end. Up to the first point where that
// is so, no two edges change places in the list of those across; and it is a vertex, or two edges that meet there are neighbours in
// the list just before: so the sweep never goes on beyond it.
func (s *sweep) turns() ([][]int, bool) {
	turns := make([][]int, len(s.order))
	reached := 0
vertices:
	for ; reached < len(s.order); reached++ {
		v := s.order[reached]
		low := sort.Search(len(s.across), func(i int) bool { return s.side(s.across[i], v) <= 0 })
		high := low
		for ; high < len(s.across) && s.side(s.across[high], v) == 0; high++ {
			if s.across[high][1] != v {
				break vertices
			}
		}
		begun := s.begun(v)
		for _, ends := range begun {
			turns[v] = append(turns[v], ends[1])
		}
		for _, ends := range slices.Backward(s.across[low:high]) {
			turns[v] = append(turns[v], ends[0])
		}
		s.across = slices.Replace(s.across, low, high, begun...)
		for i := max(low, 1); i <= low+len(begun) && i < len(s.across); i++ {
			if !s.apart(s.across[i-1], s.across[i]) {
				break vertices
			}
		}
	}
	return turns, reached == len(s.order)
}

// begun returns the edges from a vertex to those after it, the lowest one first.
func (s *sweep) begun(v int) [][2]int {
	var list [][2]int
	for _, to := range s.rising[v] {
		list = append(list, [2]int{v, to})
	}
	slices.SortFunc(list, func(e, f [2]int) int { return s.side(f, e[1]) })
	return list
}

// side tells on which side of an edge a vertex lies: 1 above it, -1 below, 0 on its line.
func (s *sweep) side(ends [2]int, v int) int {
	if ends[1] == v { // as it is for most edges that end, without any calculation
		return 0
	}
	return side(s.spots[ends[0]], s.spots[ends[1]], s.spots[v])
}

// apart reports whether an edge stays below another one up to the vertex where the first of both ends.
func (s *sweep) apart(low, high [2]int) bool {
	a, b := s.rank[low[1]], s.rank[high[1]]
	switch {
	case a < b:
		return s.side(high, low[1]) < 0
	case a > b:
		return s.side(low, high[1]) > 0
	default:
		return true
	}
}
