package snap_test

import (
	"math/big"
	"slices"

	"meresman/api"
	"meresman/frac"
	"meresman/point"
	"meresman/snap"
)

// The model of this file follows the words of the chapter with math/big: vertex by vertex, and pair of edges by pair of edges.

// spot is a point whose coordinates were multiplied by a common denominator.
type spot struct{ x, y *big.Int }

// spotsOf returns some points, multiplied by a common denominator of all of them.
func spotsOf(list ...point.P) []spot {
	common := big.NewInt(1)
	for _, p := range list {
		for _, x := range []frac.Frac{p.X, p.Y} {
			den := ratOf(x).Denom()
			divisor := new(big.Int).GCD(nil, nil, common, den)
			common = new(big.Int).Mul(common, new(big.Int).Quo(den, divisor))
		}
	}
	times := func(x frac.Frac) *big.Int {
		return new(big.Rat).Mul(ratOf(x), new(big.Rat).SetInt(common)).Num()
	}
	var spots []spot
	for _, p := range list {
		spots = append(spots, spot{times(p.X), times(p.Y)})
	}
	return spots
}

// faultOf returns the error of a drawing.
func faultOf(d snap.Drawing) api.Errno {
	if len(d.V) > 4096 || len(d.E) > 8192 {
		return api.ErrLimit
	}
	for i, e := range d.E {
		if e[0] < 0 || e[1] < 0 || e[0] >= len(d.V) || e[1] >= len(d.V) || e[0] >= e[1] {
			return api.ErrArg
		}
		if i > 0 && (e[0] < d.E[i-1][0] || e[0] == d.E[i-1][0] && e[1] <= d.E[i-1][1]) {
			return api.ErrArg
		}
	}
	if slices.ContainsFunc(d.V, func(p point.P) bool { return !inRange(p) }) {
		return api.ErrRange
	}
	for i, p := range d.V {
		for _, q := range d.V[:i] {
			if p.X.String() == q.X.String() && p.Y.String() == q.Y.String() {
				return api.ErrTwice
			}
		}
	}
	v := spotsOf(d.V...)
	for i, e := range d.E {
		if !isClear(v, e) || slices.ContainsFunc(d.E[:i], func(f [2]int) bool { return cross(v, e, f) }) {
			return api.ErrCross
		}
	}
	return api.OK
}

// inRange reports whether both coordinates are from -2^30 to 2^30, with denominators of at most 2^64.
func inRange(p point.P) bool {
	for _, x := range []*big.Rat{ratOf(p.X), ratOf(p.Y)} {
		if new(big.Rat).Abs(x).Cmp(big.NewRat(1<<30, 1)) > 0 || x.Denom().Cmp(new(big.Int).Lsh(big.NewInt(1), 64)) > 0 {
			return false
		}
	}
	return true
}

// isClear reports whether no vertex lies on an edge but its ends.
func isClear(v []spot, e [2]int) bool {
	for k, p := range v {
		if k != e[0] && k != e[1] && isOn(v[e[0]], v[e[1]], p) {
			return false
		}
	}
	return true
}

// cross reports whether two different edges have a point in common that is no common end.
func cross(v []spot, e, f [2]int) bool {
	for _, end := range e {
		if slices.Contains(f[:], end) { // then they have more in common exactly if they run in the same direction
			c, d := way(v[end], v[e[0]+e[1]-end]), way(v[end], v[f[0]+f[1]-end])
			return product(c, d).Sign() == 0 && dot(c, d).Sign() > 0
		}
	}
	return meet(v[e[0]], v[e[1]], v[f[0]], v[f[1]])
}

// canMove reports whether a vertex can move to a point, or returns the error of Moves.
func canMove(d snap.Drawing, v int, to point.P) (bool, api.Errno) {
	switch e := faultOf(d); {
	case e != api.OK:
		return false, e
	case v < 0 || v >= len(d.V):
		return false, api.ErrNone
	case !inRange(to):
		return false, api.ErrRange
	}
	spots := spotsOf(append(slices.Clone(d.V), to)...)
	all, old, goal := spots[:len(d.V)], spots[v], spots[len(d.V)]
	if old.x.Cmp(goal.x) == 0 && old.y.Cmp(goal.y) == 0 {
		return true, api.OK
	}
	there := snap.Drawing{V: slices.Clone(d.V), E: d.E}
	there.V[v] = to
	if faultOf(there) != api.OK {
		return false, api.OK
	}
	for w, p := range all {
		if w != v && isOn(old, goal, p) {
			return false, api.OK
		}
	}
	for _, e := range d.E {
		if e[0] != v && e[1] != v {
			if meet(all[e[0]], all[e[1]], old, goal) {
				return false, api.OK
			}
			continue
		}
		for w, p := range all {
			if w != e[0] && w != e[1] && inTriangle(old, goal, all[e[0]+e[1]-v], p) {
				return false, api.OK
			}
		}
	}
	return true, api.OK
}

// rounded returns what Round returns.
func rounded(d snap.Drawing) (snap.Drawing, []int, api.Errno) {
	if e := faultOf(d); e != api.OK {
		return snap.Drawing{}, nil, e
	}
	d = clone(d)
	var left []int
	for v, p := range d.V {
		if ratOf(p.X).IsInt() && ratOf(p.Y).IsInt() {
			continue
		}
		goal := over(nearest(ratOf(p.X)), nearest(ratOf(p.Y)), 1)
		if can, _ := canMove(d, v, goal); can {
			d.V[v] = goal
		} else {
			left = append(left, v)
		}
	}
	return d, left, api.OK
}

// nearest returns the nearest integer to x, or the lesser one of two: the first one that is not less than x - 1/2.
func nearest(x *big.Rat) int {
	low := new(big.Rat).Sub(x, big.NewRat(1, 2))
	// The quotient of Euclid's division is rounded down, for a positive divisor.
	down := new(big.Int).Div(new(big.Int).Neg(low.Num()), low.Denom())
	return -int(down.Int64())
}

// turnsOf returns the turn at each vertex of a drawing without an error.
func turnsOf(d snap.Drawing) [][]int {
	v := spotsOf(d.V...)
	turns := make([][]int, len(v))
	for _, e := range d.E {
		turns[e[0]] = append(turns[e[0]], e[1])
		turns[e[1]] = append(turns[e[1]], e[0])
	}
	for at, turn := range turns {
		slices.SortFunc(turn, func(a, b int) int {
			c, d := way(v[at], v[a]), way(v[at], v[b])
			switch {
			case upper(c) == upper(d):
				return -product(c, d).Sign()
			case upper(c):
				return -1
			default:
				return 1
			}
		})
		for len(turn) > 0 && turn[0] != slices.Min(turn) {
			turn = append(turn[1:], turn[0])
		}
		turns[at] = turn
	}
	return turns
}

// isOn reports whether p is a + u (b - a) for some u from 0 to 1.
func isOn(a, b, p spot) bool {
	if product(way(a, b), way(a, p)).Sign() != 0 {
		return false
	}
	ahead, whole := dot(way(a, b), way(a, p)), dot(way(a, b), way(a, b))
	return ahead.Sign() >= 0 && ahead.Cmp(whole) <= 0
}

// meet reports whether the segments from a to b and from c to d have a point in common.
func meet(a, b, c, d spot) bool {
	both := product(way(a, b), way(c, d))
	if both.Sign() == 0 {
		return isOn(a, b, c) || isOn(a, b, d) || isOn(c, d, a) || isOn(c, d, b)
	}
	// a + u (b - a) = c + w (d - c), with these numerators of u and w
	u, w := product(way(a, c), way(c, d)), product(way(a, c), way(a, b))
	within := func(x *big.Int) bool { return x.Sign()*both.Sign() >= 0 && x.CmpAbs(both) <= 0 }
	return within(u) && within(w)
}

// inTriangle reports whether p lies in a triangle, its border included.
func inTriangle(a, b, c, p spot) bool {
	whole := product(way(a, b), way(a, c))
	if whole.Sign() == 0 {
		return isOn(a, b, p) || isOn(b, c, p) || isOn(c, a, p)
	}
	// p = a + u (b - a) + w (c - a), with these numerators of u and w
	u, w := product(way(a, p), way(a, c)), product(way(a, b), way(a, p))
	if whole.Sign() < 0 {
		whole, u, w = new(big.Int).Neg(whole), new(big.Int).Neg(u), new(big.Int).Neg(w)
	}
	return u.Sign() >= 0 && w.Sign() >= 0 && new(big.Int).Add(u, w).Cmp(whole) <= 0
}

// upper reports whether the angle of a direction is less than half a turn.
func upper(d spot) bool {
	return d.y.Sign() > 0 || d.y.Sign() == 0 && d.x.Sign() > 0
}

// less returns x - y.
func less(x, y frac.Frac) frac.Frac {
	result, _ := frac.Sub(x, y)
	return result
}

func way(a, b spot) spot {
	return spot{new(big.Int).Sub(b.x, a.x), new(big.Int).Sub(b.y, a.y)}
}

func product(c, d spot) *big.Int {
	left, right := new(big.Int).Mul(c.x, d.y), new(big.Int).Mul(c.y, d.x)
	return left.Sub(left, right)
}

func dot(c, d spot) *big.Int {
	x, y := new(big.Int).Mul(c.x, d.x), new(big.Int).Mul(c.y, d.y)
	return x.Add(x, y)
}

func ratOf(x frac.Frac) *big.Rat {
	num, small := x.Num().Small()
	if den, short := x.Den().Small(); small && short {
		return big.NewRat(int64(num), int64(den))
	}
	r, _ := new(big.Rat).SetString(x.String())
	return r
}
