package cross

import (
	"cmp"

	"meresman/api"
	"meresman/frac"
	"meresman/point"
)

// The functions of this file decide whether a point lies on a line even if its coordinates are such long fractions that their
// products are out of range. They form products by doubling and adding, and keep the whole part of each sum apart: what is
// left of it is less than 1, and has a denominator of the coordinate, so that it is in range, as that is.

// number is whole + rest, where rest is greater than -1/2 and at most 1/2.
type number struct {
	whole int
	rest  frac.Frac
}

// onLine reports whether a point in the box of a segment lies on the segment.
func onLine(s api.Seg, p point.P) bool {
	x, y := split(p.X), split(p.Y)
	x.whole -= s.A.X
	y.whole -= s.A.Y
	left, right := times(s.B.X-s.A.X, y), times(s.B.Y-s.A.Y, x)
	return left.whole == right.whole && frac.Compare(left.rest, right.rest) == 0
}

// split returns the number that x is, if the integer nearest to x is a coordinate of a valid point.
func split(x frac.Frac) number {
	near, _ := point.Round(point.P{X: x})
	// What is subtracted first lies between 0 and x: the product of near and the denominator of x can be out of range.
	last := cmp.Compare(near.X, 0)
	return number{near.X, minus(minus(x, near.X-last), last)}
}

// minus returns x - n.
func minus(x frac.Frac, n int) frac.Frac {
	whole, _ := frac.Of(n, 1)
	difference, _ := frac.Sub(x, whole)
	return difference
}

// times returns the product of n and x.
func times(n int, x number) number {
	if n < 0 {
		opposite, _ := frac.Sub(frac.Frac{}, x.rest)
		return times(-n, number{-x.whole, opposite})
	}
	if n == 0 {
		return number{}
	}
	half := times(n/2, x)
	product := sum(half, half)
	if n%2 == 1 {
		product = sum(product, x)
	}
	return product
}

// sum returns the sum of two multiples of one number.
func sum(a, b number) number {
	rests, _ := frac.Add(a.rest, b.rest)
	c := split(rests)
	return number{a.whole + b.whole + c.whole, c.rest}
}
