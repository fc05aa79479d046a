package overlay_test

import (
	"math/big"

	"meresman/arrange"
	"meresman/faces"
	"meresman/overlay"
	"meresman/point"
)

// The model of this file finds the edge and the face of a map with math/big, by no function of package locate.

// rat is a point whose coordinates are numbers of math/big.
type rat struct{ x, y *big.Rat }

// model is the arrangement of a map with its faces.
type model struct {
	a arrange.Arr
	f faces.Faces
	v []rat // the vertices
}

func modelOf(l overlay.Layer) model {
	a, _ := arrange.New(l.Segs, l.Points)
	f, _ := faces.New(a)
	m := model{a: a, f: f}
	for _, p := range a.V {
		m.v = append(m.v, ratOf(p))
	}
	return m
}

// edgesWith returns the edges that have both points, and so all points between them.
func (m model) edgesWith(p, q rat) []int {
	var list []int
	for i := range m.a.E {
		if m.holds(i, p) && m.holds(i, q) {
			list = append(list, i)
		}
	}
	return list
}

// holds reports whether an edge has a point, or ends there.
func (m model) holds(edge int, p rat) bool {
	a, b := m.ends(edge)
	between := func(x, y, z *big.Rat) bool { return x.Cmp(y)*y.Cmp(z) >= 0 }
	return between(a.x, p.x, b.x) && between(a.y, p.y, b.y) && bend(a, b, p) == 0
}

// face returns the face in which a point lies that is on no edge, and above no vertex: it is the one above the next edge below.
func (m model) face(p rat) int {
	face, top := 0, (*big.Rat)(nil)
	for i := range m.a.E {
		a, b := m.ends(i)
		if a.x.Cmp(p.x) >= 0 || p.x.Cmp(b.x) >= 0 || bend(a, b, p) <= 0 {
			continue
		}
		slope := new(big.Rat).Quo(minus(b.y, a.y), minus(b.x, a.x))
		y := slope.Add(slope.Mul(slope, minus(p.x, a.x)), a.y)
		if top == nil || y.Cmp(top) > 0 {
			face, top = m.f.Left[2*i], y
		}
	}
	return face
}

func (m model) ends(edge int) (a, b rat) {
	return m.v[m.a.E[edge].A], m.v[m.a.E[edge].B]
}

// beside returns a point near to the middle of a half-edge, to its left, whose X is that of no vertex of any map: those have
// denominators of at most 64 bits.
func (m model) beside(h int) rat {
	a, b := m.ends(h / 2)
	middle := rat{half(new(big.Rat).Add(a.x, b.x)), half(new(big.Rat).Add(a.y, b.y))}
	d, sign := m.a.E[h/2].Dir, 1-h%2*2
	near := new(big.Rat).SetFrac(big.NewInt(1), new(big.Int).Lsh(big.NewInt(1), 300))
	nearer := new(big.Rat).Mul(near, near)
	x, y := times(near, -d.Y*sign), times(near, d.X*sign)
	return rat{x.Add(x, middle.x).Add(x, nearer), y.Add(y, middle.y)}
}

// bend returns 1, -1 or 0, if c lies to the left of the line from a to b, to the right, or on it.
func bend(a, b, c rat) int {
	left := new(big.Rat).Mul(minus(b.x, a.x), minus(c.y, a.y))
	return left.Cmp(new(big.Rat).Mul(minus(b.y, a.y), minus(c.x, a.x)))
}

func minus(a, b *big.Rat) *big.Rat {
	return new(big.Rat).Sub(a, b)
}

func half(a *big.Rat) *big.Rat {
	return new(big.Rat).Mul(a, big.NewRat(1, 2))
}

func times(a *big.Rat, n int) *big.Rat {
	return new(big.Rat).Mul(a, new(big.Rat).SetInt64(int64(n)))
}

func ratOf(p point.P) rat {
	x, _ := new(big.Rat).SetString(p.X.String())
	y, _ := new(big.Rat).SetString(p.Y.String())
	return rat{x, y}
}

func one() *big.Rat {
	return big.NewRat(1, 1)
}
