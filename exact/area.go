package exact

import (
	"meresman/api"
	"meresman/frac"
	"meresman/point"
	"meresman/wide"
)

// doubledArea returns the doubled area of three points, or the first error of its steps.
func doubledArea[N frac.Frac | wide.Int](sub, mul func(x, y N) (N, api.Errno), a, b, c [2]N) (N, api.Errno) {
	const x, y = 0, 1
	var results [7]N
	steps := [7]func() (N, api.Errno){
		func() (N, api.Errno) { return sub(b[x], a[x]) },
		func() (N, api.Errno) { return sub(c[y], a[y]) },
		func() (N, api.Errno) { return mul(results[0], results[1]) },
		func() (N, api.Errno) { return sub(b[y], a[y]) },
		func() (N, api.Errno) { return sub(c[x], a[x]) },
		func() (N, api.Errno) { return mul(results[3], results[4]) },
		func() (N, api.Errno) { return sub(results[2], results[5]) },
	}
	for i, step := range steps {
		var e api.Errno
		if results[i], e = step(); e != api.OK {
			var zero N
			return zero, e
		}
	}
	return results[6], api.OK
}

// coordinates returns the coordinates of a point, X before Y.
func coordinates(p point.P) [2]frac.Frac {
	return [2]frac.Frac{p.X, p.Y}
}

// inBox reports whether both coordinates of a point lie between those of two others, these included.
func inBox(a, b, p point.P) bool {
	from, to := coordinates(a), coordinates(b)
	for i, x := range coordinates(p) {
		if frac.Compare(from[i], x)*frac.Compare(x, to[i]) < 0 {
			return false
		}
	}
	return true
}
