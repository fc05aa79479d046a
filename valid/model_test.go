package valid_test

import (
	"math/big"
	"slices"

	"meresman/point"
	"meresman/valid"
)

// The model of this file follows the words of the chapter with math/big: vertex by vertex, and pair of edges by pair of edges.

// rat is a vertex whose coordinates are numbers of math/big.
type rat struct{ x, y *big.Rat }

// model is the vertices and half-edges of a draft whose edges do not cross.
type model struct {
	v        []rat
	from, to []int
	next     []int
	first    []int // for each half-edge the least one of its cycle
	least    []int // for each vertex the least one of its component
}

// defectOf returns the defect of a draft.
func defectOf(d valid.Draft) valid.Defect {
	if defect := crossing(d); defect.Kind != valid.None {
		return defect
	}
	should := completed(d)
	for _, kind := range []struct {
		kind      int
		got, want []int
	}{{valid.BadNext, d.Next, should.Next}, {valid.BadLeft, d.Left, should.Left}, {valid.BadOuter, d.Outer, should.Outer}} {
		for i, n := range kind.want {
			if i >= len(kind.got) || kind.got[i] != n {
				return valid.Defect{Kind: kind.kind, Index: i, Other: n}
			}
		}
		if len(kind.got) > len(kind.want) {
			return valid.Defect{Kind: kind.kind, Index: len(kind.want), Other: -1}
		}
	}
	for _, kind := range []struct {
		kind      int
		got, want [][]int
	}{{valid.BadInner, d.Inner, should.Inner}, {valid.BadAlone, d.Alone, should.Alone}} {
		for i, list := range kind.want {
			if i >= len(kind.got) || !slices.Equal(kind.got[i], list) {
				return valid.Defect{Kind: kind.kind, Index: i, Other: -1}
			}
		}
		if len(kind.got) > len(kind.want) {
			return valid.Defect{Kind: kind.kind, Index: len(kind.want), Other: -1}
		}
	}
	return valid.Defect{}
}

// crossing returns the first of those defects that do not depend on faces.
func crossing(d valid.Draft) valid.Defect {
	var v []rat
	for i, p := range d.V {
		v = append(v, ratOf(p))
		if !isSmall(v[i].x) || !isSmall(v[i].y) || i > 0 && !isLess(v[i-1], v[i]) {
			return valid.Defect{Kind: valid.BadVertex, Index: i, Other: -1}
		}
	}
	for i, e := range d.E {
		proper := e[0] >= 0 && e[1] >= 0 && e[0] < len(v) && e[1] < len(v) && e[0] < e[1]
		if !proper || i > 0 && (e[0] < d.E[i-1][0] || e[0] == d.E[i-1][0] && e[1] <= d.E[i-1][1]) {
			return valid.Defect{Kind: valid.BadEdge, Index: i, Other: -1}
		}
	}
	for i, e := range d.E {
		for k, p := range v {
			if k != e[0] && k != e[1] && isOn(v[e[0]], v[e[1]], p) {
				return valid.Defect{Kind: valid.BadCross, Index: i, Other: k}
			}
		}
		for k, f := range d.E[:i] {
			if cross(v[e[0]], v[e[1]], v[f[0]], v[f[1]]) {
				return valid.Defect{Kind: valid.BadCross, Index: i, Other: k}
			}
		}
	}
	return valid.Defect{}
}

// isSmall reports whether a coordinate is from -2^30 to 2^30, with a denominator of at most 2^64.
func isSmall(x *big.Rat) bool {
	return new(big.Rat).Abs(x).Cmp(big.NewRat(1<<30, 1)) <= 0 && x.Denom().Cmp(new(big.Int).Lsh(big.NewInt(1), 64)) <= 0
}

func isLess(a, b rat) bool {
	return a.x.Cmp(b.x) < 0 || a.x.Cmp(b.x) == 0 && a.y.Cmp(b.y) < 0
}

// isOn reports whether p is a + u (b - a) for some u from 0 to 1.
func isOn(a, b, p rat) bool {
	if bend(way(a, b), way(a, p)) != 0 {
		return false
	}
	ahead, whole := dot(way(a, b), way(a, p)), dot(way(a, b), way(a, b))
	return ahead.Sign() >= 0 && ahead.Cmp(whole) <= 0
}

// cross reports whether the segments from a to b and from c to d have a point in common that is no end of both.
func cross(a, b, c, d rat) bool {
	common := func(p, q rat) bool { return p.x.Cmp(q.x) == 0 && p.y.Cmp(q.y) == 0 }
	for _, p := range []rat{a, b} {
		if isOn(c, d, p) && !common(p, c) && !common(p, d) {
			return true
		}
	}
	for _, p := range []rat{c, d} {
		if isOn(a, b, p) && !common(p, a) && !common(p, b) {
			return true
		}
	}
	// a + u (b - a) = c + w (d - c)
	both := product(way(a, b), way(c, d))
	if both.Sign() == 0 {
		return false
	}
	u, w := new(big.Rat).Quo(product(way(a, c), way(c, d)), both), new(big.Rat).Quo(product(way(a, c), way(a, b)), both)
	within := func(x *big.Rat) bool { return x.Sign() > 0 && x.Cmp(big.NewRat(1, 1)) < 0 }
	return within(u) && within(w)
}

// completed returns the draft with the same vertices and edges and the faces that it should have; no edges cross.
func completed(d valid.Draft) valid.Draft {
	m := modelOf(d)
	d.Next, d.Left, d.Outer = m.next, nil, []int{-1}
	for h, first := range m.first {
		if h == first && m.outside(m.least[m.from[h]]) != h {
			d.Outer = append(d.Outer, h)
		}
	}
	d.Inner, d.Alone = make([][]int, len(d.Outer)), make([][]int, len(d.Outer))
	home := map[int]int{}
	for v, least := range m.least {
		if v != least {
			continue
		}
		home[v] = m.home(v, d.Outer)
		if h := m.outside(v); h < 0 {
			d.Alone[home[v]] = append(d.Alone[home[v]], v)
		} else {
			d.Inner[home[v]] = append(d.Inner[home[v]], h)
		}
	}
	for _, list := range d.Inner {
		slices.Sort(list)
	}
	for h, first := range m.first {
		left := slices.Index(d.Outer, first)
		if left < 0 {
			left = home[m.least[m.from[h]]]
		}
		d.Left = append(d.Left, left)
	}
	return d
}

func modelOf(d valid.Draft) model {
	var m model
	for _, p := range d.V {
		m.v = append(m.v, ratOf(p))
	}
	for _, e := range d.E {
		m.from = append(m.from, e[0], e[1])
		m.to = append(m.to, e[1], e[0])
	}
	for h := range m.from {
		m.next = append(m.next, m.justBefore(4*(h/2)+1-h))
	}
	for h := range m.from {
		m.first = append(m.first, slices.Min(m.cycle(h)))
	}
	for v := range m.v {
		m.least = append(m.least, m.leastFrom(v))
	}
	return m
}

// home returns the face in which the component with the least vertex v lies: of the faces of other components inside whose outer
// cycles it lies, the one with the least area, since each of them lies within the next greater one.
func (m model) home(v int, outer []int) int {
	home, least := 0, new(big.Rat)
	for face, h := range outer {
		if face == 0 || m.least[m.from[h]] == v || !m.inside(v, h) {
			continue
		}
		if area := m.area(h); home == 0 || area.Cmp(least) < 0 {
			home, least = face, area
		}
	}
	return home
}

// inside reports whether a vertex lies inside the cycle of h.
func (m model) inside(v, h int) bool {
	odd := false
	for _, g := range m.cycle(h) {
		p, a, b := m.v[v], m.v[m.from[g]], m.v[m.to[g]]
		if a.x.Cmp(b.x) > 0 {
			a, b = b, a
		}
		if a.x.Cmp(p.x) <= 0 && p.x.Cmp(b.x) < 0 && bend(way(a, b), way(a, p)) > 0 {
			odd = !odd
		}
	}
	return odd
}

// around returns the half-edges that begin at a vertex, by their angles.
func (m model) around(v int) []int {
	var list []int
	for h, from := range m.from {
		if from == v {
			list = append(list, h)
		}
	}
	slices.SortFunc(list, func(g, h int) int {
		c, d := m.direction(g), m.direction(h)
		switch {
		case upper(c) == upper(d):
			return -bend(c, d)
		case upper(c):
			return -1
		default:
			return 1
		}
	})
	return list
}

// justBefore returns the half-edge before h of those that begin at the same vertex; before the first one comes the last one.
func (m model) justBefore(h int) int {
	list := m.around(m.from[h])
	if at := slices.Index(list, h); at > 0 {
		return list[at-1]
	}
	return list[len(list)-1]
}

// outside returns the least half-edge of the outside cycle of a component with this least vertex, or -1, if there are no half-edges.
func (m model) outside(v int) int {
	list := m.around(v)
	if len(list) == 0 {
		return -1
	}
	last := list[len(list)-1]
	for _, h := range list {
		if upper(m.direction(h)) {
			last = h
		}
	}
	return m.first[last]
}

func (m model) cycle(h int) []int {
	list := []int{h}
	for g := m.next[h]; g != h; g = m.next[g] {
		list = append(list, g)
	}
	return list
}

// area returns twice the area to the left of the cycle of h.
func (m model) area(h int) *big.Rat {
	sum := new(big.Rat)
	for _, g := range m.cycle(h) {
		sum.Add(sum, product(m.v[m.from[g]], m.v[m.to[g]]))
	}
	return sum
}

// leastFrom returns the least vertex that can be reached from v.
func (m model) leastFrom(v int) int {
	reached := []int{v}
	for i := 0; i < len(reached); i++ {
		for h, from := range m.from {
			if from == reached[i] && !slices.Contains(reached, m.to[h]) {
				reached = append(reached, m.to[h])
			}
		}
	}
	return slices.Min(reached)
}

func (m model) direction(h int) rat {
	return way(m.v[m.from[h]], m.v[m.to[h]])
}

// upper reports whether the angle of a direction is less than half a turn.
func upper(d rat) bool {
	return d.y.Sign() > 0 || d.y.Sign() == 0 && d.x.Sign() > 0
}

func way(a, b rat) rat {
	return rat{new(big.Rat).Sub(b.x, a.x), new(big.Rat).Sub(b.y, a.y)}
}

// bend returns 1, -1 or 0, if the direction d leads to the left of c, to the right of it, or neither.
func bend(c, d rat) int {
	return product(c, d).Sign()
}

func product(c, d rat) *big.Rat {
	left, right := new(big.Rat).Mul(c.x, d.y), new(big.Rat).Mul(c.y, d.x)
	return left.Sub(left, right)
}

func dot(c, d rat) *big.Rat {
	x, y := new(big.Rat).Mul(c.x, d.x), new(big.Rat).Mul(c.y, d.y)
	return x.Add(x, y)
}

func ratOf(p point.P) rat {
	x, _ := new(big.Rat).SetString(p.X.String())
	y, _ := new(big.Rat).SetString(p.Y.String())
	return rat{x, y}
}
