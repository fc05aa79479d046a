package faces_test

import (
	"math/big"
	"slices"

	"meresman/arrange"
	"meresman/faces"
	"meresman/point"
)

// The model of this file follows the words of the chapter with math/big: it looks for the half-edges below each point.

// rat is a vertex whose coordinates are numbers of math/big.
type rat struct{ x, y *big.Rat }

// model is the half-edges of an arrangement.
type model struct {
	v        []rat
	from, to []int
	next     []int
	first    []int // for each half-edge the least one of its cycle
	least    []int // for each vertex the least one of its component
}

func modelOf(a arrange.Arr) model {
	var m model
	for _, p := range a.V {
		m.v = append(m.v, ratOf(p))
	}
	for _, e := range a.E {
		m.from = append(m.from, e.A, e.B)
		m.to = append(m.to, e.B, e.A)
	}
	for h := range m.from {
		m.next = append(m.next, m.justBefore(4*(h/2)+1-h))
	}
	for h := range m.from {
		m.first = append(m.first, slices.Min(m.cycle(h)))
	}
	for v := range m.v {
		m.least = append(m.least, m.leastFrom(v))
	}
	return m
}

// faces returns the faces, and how many components lie in several bounded faces of others; -1, if one of them has no innermost one.
func (m model) faces() (f faces.Faces, deep int) {
	f = faces.Faces{Next: m.next, Outer: []int{-1}}
	for h, first := range m.first {
		if h == first && m.outside(m.least[m.from[h]]) != h {
			f.Outer = append(f.Outer, h)
		}
	}
	f.Inner, f.Alone = make([][]int, len(f.Outer)), make([][]int, len(f.Outer))
	home := map[int]int{}
	for v, least := range m.least {
		if v != least {
			continue
		}
		around := m.facesAround(v, f.Outer)
		home[v] = m.innermost(around, f.Outer)
		if home[v] < 0 {
			return f, -1
		}
		if len(around) > 1 {
			deep++
		}
		if h := m.outside(v); h < 0 {
			f.Alone[home[v]] = append(f.Alone[home[v]], v)
		} else {
			f.Inner[home[v]] = append(f.Inner[home[v]], h)
		}
	}
	for _, list := range f.Inner {
		slices.Sort(list)
	}
	for h, first := range m.first {
		left := slices.Index(f.Outer, first)
		if left < 0 {
			left = home[m.least[m.from[h]]]
		}
		f.Left = append(f.Left, left)
	}
	return f, deep
}

// facesAround returns the bounded faces of other components inside whose outer cycles the least vertex of a component lies.
func (m model) facesAround(v int, outer []int) []int {
	var list []int
	for face, h := range outer {
		if face > 0 && m.least[m.from[h]] != v && m.inside(v, h) {
			list = append(list, face)
		}
	}
	return list
}

// innermost returns the face whose component begins inside the outer cycles of all others; 0 for no faces, and -1, if there is not just one.
func (m model) innermost(list, outer []int) int {
	if len(list) == 0 {
		return 0
	}
	found := -1
	for _, face := range list {
		least := m.least[m.from[outer[face]]]
		beside := func(other int) bool { return other != face && !m.inside(least, outer[other]) }
		if !slices.ContainsFunc(list, beside) {
			if found >= 0 {
				return -1
			}
			found = face
		}
	}
	return found
}

// inside reports whether a vertex lies inside the cycle whose least half-edge is given.
func (m model) inside(v, first int) bool {
	below := 0
	for h, f := range m.first {
		if f == first && m.runsBelow(h, v) {
			below++
		}
	}
	return below%2 == 1
}

func (m model) runsBelow(h, v int) bool {
	p, a, b := m.v[v], m.v[m.from[h]], m.v[m.to[h]]
	if a.x.Cmp(b.x) > 0 {
		a, b = b, a
	}
	return a.x.Cmp(p.x) <= 0 && p.x.Cmp(b.x) < 0 && bend(way(a, b), way(a, p)) > 0
}

// around returns the half-edges that begin at a vertex, by their angles.
func (m model) around(v int) []int {
	var list []int
	for h, from := range m.from {
		if from == v {
			list = append(list, h)
		}
	}
	slices.SortFunc(list, func(g, h int) int {
		c, d := m.direction(g), m.direction(h)
		if upper(c) != upper(d) {
			if upper(c) {
				return -1
			}
			return 1
		}
		return -bend(c, d)
	})
	return list
}

// justBefore returns the half-edge before h of those that begin at the same vertex; before the first one comes the last one.
func (m model) justBefore(h int) int {
	list := m.around(m.from[h])
	before := list[len(list)-1]
	for _, g := range list {
		if g == h {
			break
		}
		before = g
	}
	return before
}

// outside returns the least half-edge of the outside cycle of a component with this least vertex, or -1, if there are no half-edges.
func (m model) outside(v int) int {
	list := m.around(v)
	if len(list) == 0 {
		return -1
	}
	last := list[len(list)-1]
	for _, h := range list {
		if upper(m.direction(h)) {
			last = h
		}
	}
	return m.first[last]
}

func (m model) cycle(h int) []int {
	list := []int{h}
	for g := m.next[h]; g != h; g = m.next[g] {
		list = append(list, g)
	}
	return list
}

// leastFrom returns the least vertex that can be reached from v.
func (m model) leastFrom(v int) int {
	reached := []int{v}
	for i := 0; i < len(reached); i++ {
		for h, from := range m.from {
			if from == reached[i] && !slices.Contains(reached, m.to[h]) {
				reached = append(reached, m.to[h])
			}
		}
	}
	return slices.Min(reached)
}

// area returns twice the area to the left of a cycle.
func (m model) area(cycle []int) *big.Rat {
	sum := new(big.Rat)
	for _, h := range cycle {
		sum.Add(sum, product(m.v[m.from[h]], m.v[m.to[h]]))
	}
	return sum
}

func (m model) direction(h int) rat {
	return way(m.v[m.from[h]], m.v[m.to[h]])
}

// upper reports whether the angle of a direction is less than half a turn.
func upper(d rat) bool {
	return d.y.Sign() > 0 || d.y.Sign() == 0 && d.x.Sign() > 0
}

func way(a, b rat) rat {
	return rat{new(big.Rat).Sub(b.x, a.x), new(big.Rat).Sub(b.y, a.y)}
}

// bend returns 1, -1 or 0, if the direction d leads to the left of c, to the right of it, or neither.
func bend(c, d rat) int {
	return product(c, d).Sign()
}

func product(c, d rat) *big.Rat {
	left, right := new(big.Rat).Mul(c.x, d.y), new(big.Rat).Mul(c.y, d.x)
	return left.Sub(left, right)
}

func ratOf(p point.P) rat {
	x, _ := new(big.Rat).SetString(p.X.String())
	y, _ := new(big.Rat).SetString(p.Y.String())
	return rat{x, y}
}
