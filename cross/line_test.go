package cross

import (
	"math/rand/v2"
	"testing"

	"meresman/api"
	"meresman/exact"
	"meresman/frac"
	"meresman/point"
)

// What is used only for fractions that are too long for exact.Side, is compared with exact.Side for shorter ones here.

func TestOnLineOfSmallSegments(t *testing.T) { // P7.3
	found := 0
	for i := range 4 * 4 * 4 * 4 {
		s := api.Seg{A: api.Point{X: i%4 - 2, Y: i/4%4 - 1}, B: api.Point{X: i/16%4 - 2, Y: i/64 - 1}}
		for _, den := range []int{2, 3} {
			for x := -2 * den; x <= den; x++ {
				for y := -den; y <= 2*den; y++ {
					if checkOnLine(t, s, pointOf(x, den, y, den)) {
						found++
					}
				}
			}
		}
	}
	if found < 1000 {
		t.Errorf("only %d points", found)
	}
}

func TestOnLineOfManySizes(t *testing.T) { // P7.3
	const most = api.MaxCoord
	source := rand.New(rand.NewPCG(7, 10))
	coordinate := func() int {
		return []int{-most, most, source.IntN(9) - 4, source.IntN(2*most+1) - most}[source.IntN(4)]
	}
	found := 0
	for range 1000 {
		s := api.Seg{A: api.Point{X: coordinate(), Y: coordinate()}, B: api.Point{X: coordinate(), Y: coordinate()}}
		a, b := point.Of(s.A), point.Of(s.B)
		den := 1 + source.IntN(1<<source.IntN(40))
		part, _ := frac.Of(source.IntN(den+1), den)
		p := point.P{X: onTheWay(a.X, b.X, part), Y: onTheWay(a.Y, b.Y, part)}
		switch source.IntN(6) {
		case 0:
			p.X = minus(p.X, source.IntN(3)-1)
		case 1:
			p.Y = minus(p.Y, source.IntN(3)-1)
		case 2:
			p.Y = onTheWay(p.Y, b.Y, part)
		}
		if checkOnLine(t, s, p) {
			found++
		}
	}
	if found < 300 || found > 950 {
		t.Errorf("%d points lie on segments", found)
	}
}

// checkOnLine compares onLine with exact.Side for a point in the box of a segment, and reports whether it lies on the segment.
func checkOnLine(t *testing.T, s api.Seg, p point.P) bool {
	t.Helper()
	if !point.In(boxOf(s), p) {
		return false
	}
	side, e := exact.Side(point.Of(s.A), point.Of(s.B), p)
	if got := onLine(s, p); got != (side == 0) || e != api.OK {
		t.Fatalf("%v, (%s, %s): %v, error %d", s, p.X, p.Y, got, e)
	}
	return side == 0
}

func pointOf(x, xDen, y, yDen int) point.P {
	a, _ := frac.Of(x, xDen)
	b, _ := frac.Of(y, yDen)
	return point.P{X: a, Y: b}
}
