package point

import (
	"meresman/api"
	"meresman/frac"
)

// The functions of this file work on points as arrays of two coordinates, X before Y, of either kind.

// integers returns the coordinates of a point of the grid.
func integers(p api.Point) [2]int {
	return [2]int{p.X, p.Y}
}

// fractions returns the coordinates of a point.
func fractions(p P) [2]frac.Frac {
	return [2]frac.Frac{p.X, p.Y}
}

// onGrid returns the point of the grid with these coordinates: e, if that is an error, or ErrRange, if it is not valid.
func onGrid(list [2]int, e api.Errno) (api.Point, api.Errno) {
	p := api.Point{X: list[0], Y: list[1]}
	if e == api.OK {
		e = Valid(p)
	}
	if e != api.OK {
		return api.Point{}, e
	}
	return p, api.OK
}

// rational returns the point with these coordinates, together with e.
func rational(list [2]frac.Frac, e api.Errno) (P, api.Errno) {
	return P{list[0], list[1]}, e
}

// each returns what a function returns for both elements, or its first error.
func each[S, T any](list [2]S, of func(S) (T, api.Errno)) ([2]T, api.Errno) {
	var results [2]T
	for i, x := range list {
		var e api.Errno
		if results[i], e = of(x); e != api.OK {
			return [2]T{}, e
		}
	}
	return results, api.OK
}

// order compares two points by their first coordinates that differ.
func order[T any](a, b [2]T, compare func(x, y T) int) int {
	for i := range a {
		if o := compare(a[i], b[i]); o != 0 {
			return o
		}
	}
	return 0
}

// notGreater reports whether neither coordinate of a is greater than that of b.
func notGreater[T any](a, b [2]T, compare func(x, y T) int) bool {
	for i := range a {
		if compare(a[i], b[i]) > 0 {
			return false
		}
	}
	return true
}
