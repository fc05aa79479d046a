package valid

import "meresman/faces"

// The functions of this file work on a sweep that has reached all vertices.

// faces returns the faces of the vertices and edges.
func (s *sweep) faces() faces.Faces {
	f := faces.Faces{Next: s.next(), Outer: []int{nothing}}
	cycle := leastOfCycles(f.Next)
	face := make([]int, len(cycle)) // of a cycle, where its least half-edge stands
	var outside []int
	for h, least := range cycle {
		if h != least {
			continue
		}
		if s.isOutside(h, cycle) {
			outside = append(outside, h)
		} else {
			face[h] = len(f.Outer)
			f.Outer = append(f.Outer, h)
		}
	}
	around := func(v int) int {
		if s.ground[v] == nothing {
			return 0
		}
		return face[cycle[2*s.ground[v]]]
	}
	f.Inner, f.Alone = make([][]int, len(f.Outer)), make([][]int, len(f.Outer))
	for _, h := range outside {
		// What runs below the component begins before it, and so has a face by now, outside of its own component, too.
		face[h] = around(s.e[h/2][0])
		f.Inner[face[h]] = append(f.Inner[face[h]], h)
	}
	for v, turn := range s.around {
		if len(turn) == 0 {
			f.Alone[around(v)] = append(f.Alone[around(v)], v)
		}
	}
	for _, least := range cycle {
		f.Left = append(f.Left, face[least])
	}
	return f
}

// next returns for each half-edge the next one of its cycle.
func (s *sweep) next() []int {
	next := make([]int, 2*len(s.e))
	for _, turn := range s.around {
		for i, h := range turn {
			twin := h ^ 1
			next[twin] = turn[(i+len(turn)-1)%len(turn)]
		}
	}
	return next
}

// leastOfCycles returns for each half-edge the least one of its cycle.
func leastOfCycles(next []int) []int {
	least := make([]int, len(next))
	for h := range least {
		least[h] = nothing
	}
	for h := range least {
		for g := h; least[g] == nothing; g = next[g] {
			least[g] = h
		}
	}
	return least
}

// isOutside reports whether the cycle with the least half-edge h is the outside cycle of its component. As edges are in the order
// of their lesser vertices, that of h is the least one of the cycle. Just outside cycles have there the direction (-1, 0) to the
// left of a half-edge: of the last one around the vertex, which is the highest one, as none of the cycle leads to a lesser vertex.
func (s *sweep) isOutside(h int, cycle []int) bool {
	turn := s.around[s.e[h/2][0]]
	return cycle[turn[len(turn)-1]] == h
}
