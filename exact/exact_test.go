package exact_test

import (
	"math"
	"math/big"
	"math/rand/v2"
	"slices"
	"strconv"
	"testing"

	"meresman/api"
	"meresman/exact"
	"meresman/frac"
	"meresman/point"
)

// Expected results are computed by math/big, in other ways than those of the package, or stand in the text of the chapter.

const most, mostOfDirection = api.MaxCoord, 1 << 31

func TestArea(t *testing.T) { // P6.1
	for _, c := range []struct {
		points [6]string
		want   string
	}{
		{[6]string{"0", "0", "1", "0", "0", "1"}, "1"},
		{[6]string{"0", "0", "0", "1", "1", "0"}, "-1"},
		{[6]string{"0", "0", "1", "1", "2", "2"}, "0"},
		{[6]string{"1", "2", "4", "3", "-2", "7"}, "18"},
		{[6]string{"1", "2", "1", "2", "5", "9"}, "0"},
		{[6]string{"1", "2", "5", "9", "1", "2"}, "0"},
		{[6]string{"5", "9", "1", "2", "1", "2"}, "0"},
		{[6]string{"3/2", "3/2", "3/2", "3/2", "3/2", "3/2"}, "0"},
		{[6]string{"1/2", "1/3", "3/2", "1/3", "1/2", "4/3"}, "1"},
		{[6]string{"0", "0", "1/2", "0", "0", "-1/3"}, "-1/6"},
		{[6]string{"1/2", "0", "2/3", "1/5", "-1/4", "-1/7"}, "53/420"},
		{[6]string{"-1073741824", "-1073741824", "1073741824", "-1073741824", "1073741824", "1073741824"}, "4611686018427387904"},
		{[6]string{"-1073741824", "-1073741824", "1073741824", "1073741824", "1073741824", "-1073741824"}, "-4611686018427387904"},
		{[6]string{"-9223372036854775808", "0", "9223372036854775807", "0", "0", "1"}, "18446744073709551615"},
	} {
		area, e := exact.Area(at(t, c.points[0], c.points[1]), at(t, c.points[2], c.points[3]), at(t, c.points[4], c.points[5]))
		expectArea(t, area, e, c.want, api.OK)
	}
	source := rand.New(rand.NewPCG(6, 1))
	for range 3000 {
		checkSide(t, somePoint(source, 3), somePoint(source, 3), somePoint(source, 3))
	}
	for range 100 { // whose areas are just in range or out of it
		checkSide(t, somePoint(source, 130), somePoint(source, 130), somePoint(source, 130))
	}
}

func TestErrorsOfAllSteps(t *testing.T) { // P6.1: each step that is out of range, though no other one is
	top, root, half := greatest().String(), power(8192).String(), power(8191).String()
	for i, points := range [][6]string{
		{"-1", "0", top, "0", "0", "0"},
		{"0", "-1", "0", "0", "0", top},
		{"0", "0", root, "0", "0", root},
		{"0", "-1", "0", top, "0", "-1"},
		{"-1", "0", "-1", "0", top, "0"},
		{"0", "0", "0", root, root, "0"},
		{"0", "0", root, "-" + half, root, half},
	} {
		p := [3]rats{parsed(t, points[0], points[1]), parsed(t, points[2], points[3]), parsed(t, points[4], points[5])}
		if step := failingStep(p[0], p[1], p[2]); step != i {
			t.Fatalf("step %d fails, not %d", step, i)
		}
		checkSide(t, p[0], p[1], p[2])
		a, b, c := of(t, p[0]), of(t, p[1]), of(t, p[2])
		area, e := exact.Area(a, b, c)
		expectArea(t, area, e, "0", api.ErrLimit)
		side, e := exact.Side(a, b, c)
		expect(t, "Side", side, e, 0, api.ErrLimit)
		between, e := exact.Between(a, b, c)
		expect(t, "Between", between, e, false, api.ErrLimit)
		for _, order := range [][4]point.P{{a, b, c, c}, {a, b, b, c}, {b, a, a, c}, {c, a, b, b}} {
			checkTriangle(t, ratsOf(order[0]), ratsOf(order[1]), ratsOf(order[2]), ratsOf(order[3]))
		}
	}
	// With the same products, of which the difference is in range.
	checkSide(t, parsed(t, "0", "0"), parsed(t, root, half), parsed(t, root, half))
	area, e := exact.Area(point.P{}, at(t, half, "0"), at(t, "5", root))
	expectArea(t, area, e, power(16383).String(), api.OK)
	area, e = exact.Area(point.P{}, at(t, "0", root), at(t, half, "5"))
	expectArea(t, area, e, "-"+power(16383).String(), api.OK)
}

func TestSide(t *testing.T) { // P6.1
	for _, c := range []struct {
		points [6]string
		want   int
	}{
		{[6]string{"0", "0", "1", "0", "0", "1"}, 1},
		{[6]string{"0", "0", "1", "0", "0", "-1"}, -1},
		{[6]string{"0", "0", "1", "0", "7", "0"}, 0},
		{[6]string{"0", "0", "1", "0", "7", "1/18446744073709551617"}, 1},
		{[6]string{"0", "0", "1", "0", "7", "-1/18446744073709551617"}, -1},
		{[6]string{"0", "0", "3", "1", "6/5", "2/5"}, 0},
		{[6]string{"0", "0", "3", "1", "6/5", "3/5"}, 1},
		{[6]string{"0", "0", "3", "1", "7/5", "2/5"}, -1},
		{[6]string{"1/2", "1/2", "1/2", "1/2", "9", "4"}, 0},
		{[6]string{"3", "4", "3", "4", "9", "4"}, 0},
		{[6]string{"-1073741824", "-1073741824", "1073741823", "1073741824", "1073741824", "1073741824"}, -1},
		{[6]string{"-1073741824", "-1073741824", "1073741824", "1073741824", "1073741823", "1073741823"}, 0},
		{[6]string{"-1073741824", "1073741824", "1073741824", "-1073741823", "1073741823", "-1073741823"}, -1},
		{[6]string{"-1073741825", "-1073741825", "1073741825", "1073741825", "0", "1"}, 1},
		{[6]string{"0", "0", "4294967296", "0", "4294967296", "-4294967296"}, -1},
		{[6]string{"-9223372036854775808", "-9223372036854775808", "9223372036854775807", "9223372036854775807", "0", "-1"}, -1},
		{[6]string{"-9223372036854775808", "-9223372036854775808", "9223372036854775807", "9223372036854775807", "-1", "-1"}, 0},
	} {
		a, b, p := at(t, c.points[0], c.points[1]), at(t, c.points[2], c.points[3]), at(t, c.points[4], c.points[5])
		side, e := exact.Side(a, b, p)
		expect(t, "Side", side, e, c.want, api.OK)
		checkSide(t, ratsOf(a), ratsOf(b), ratsOf(p))
	}
}

func TestSideOfNearPoints(t *testing.T) { // P6.1: on a line, or hardly beside it
	source := rand.New(rand.NewPCG(6, 2))
	sides := [3]int{}
	for range 3000 {
		a, b := somePoint(source, 2), somePoint(source, 2)
		c := along(a, b, someRat(source, 2))
		if source.IntN(2) == 0 {
			c = nearPoint(source, c)
		}
		sides[checkSide(t, a, b, c)+1]++
	}
	if slices.Min(sides[:]) < 300 {
		t.Errorf("only %v points on the sides", sides)
	}
}

func TestSideOfGrid(t *testing.T) { // P6.2
	source := rand.New(rand.NewPCG(6, 3))
	sides := [3]int{}
	for range 30000 {
		a, b, c := someGrid(source), someGrid(source), someGrid(source)
		if source.IntN(3) == 0 { // points with short ways between them
			b, c = beside(source, a), beside(source, a)
		}
		sides[checkSideOf(t, a, b, c)+1]++
	}
	if slices.Min(sides[:]) < 1000 {
		t.Errorf("only %v points on the sides", sides)
	}
	for _, c := range []struct {
		a, b, c api.Point
		want    int
	}{
		{xy(-most, -most), xy(most, most), xy(0, 0), 0},
		{xy(-most, -most), xy(most, most), xy(most, most-1), -1},
		{xy(-most, -most), xy(most, most), xy(-most, 1-most), 1},
		{xy(-most, -most), xy(most, -most), xy(-most, most), 1},
		{xy(-most, most), xy(most, -most), xy(most, most), 1},
		{xy(-most, most), xy(most, -most), xy(-most, -most), -1},
		{xy(-most, -most), xy(most-1, most-2), xy(most, most-1), 1},
		{xy(5, 5), xy(5, 5), xy(most, -most), 0},
	} {
		side, e := exact.SideOf(c.a, c.b, c.c)
		expect(t, "SideOf", side, e, c.want, api.OK)
		checkSideOf(t, c.a, c.b, c.c)
	}
}

func TestPointsThatAreNotValid(t *testing.T) { // P6.2, P6.3: at all places, in points that would lie on one line, too
	valid := []api.Point{xy(0, 0), xy(1, 0), xy(0, 1), xy(most, most), xy(-most, most), xy(2, 0)}
	for _, p := range farPoints(most) {
		for i := range 4 {
			for _, first := range valid {
				l := [4]api.Point{first, valid[1], valid[2], valid[3]}
				l[i] = p
				if i < 3 {
					side, e := exact.SideOf(l[0], l[1], l[2])
					expect(t, "SideOf", side, e, 0, api.ErrRange)
				}
				circle, e := exact.Circle(l[0], l[1], l[2], l[3])
				expect(t, "Circle", circle, e, 0, api.ErrRange)
			}
			l := [4]api.Point{}
			l[i] = p
			circle, e := exact.Circle(l[0], l[1], l[2], l[3])
			expect(t, "Circle of equal points", circle, e, 0, api.ErrRange)
		}
	}
	for _, l := range [][4]api.Point{
		{xy(0, 0), xy(1, 1), xy(2, 2), xy(5, 0)},
		{xy(0, 0), xy(0, 0), xy(2, 3), xy(5, 0)},
		{xy(2, 3), xy(0, 0), xy(0, 0), xy(5, 0)},
		{xy(0, 0), xy(2, 3), xy(0, 0), xy(5, 0)},
		{xy(-most, -most), xy(most, most), xy(1, 1), xy(most, -most)},
		{},
	} {
		circle, e := exact.Circle(l[0], l[1], l[2], l[3])
		expect(t, "Circle of points on a line", circle, e, 0, api.ErrArg)
	}
}

func TestCircle(t *testing.T) { // P6.3
	for _, c := range []struct {
		a, b, c, d api.Point
		want       int
	}{
		{xy(0, 0), xy(2, 0), xy(0, 2), xy(2, 2), 0},
		{xy(0, 0), xy(2, 0), xy(0, 2), xy(1, 1), 1},
		{xy(0, 0), xy(2, 0), xy(0, 2), xy(3, 2), -1},
		{xy(5, 0), xy(0, 5), xy(-5, 0), xy(3, -4), 0},
		{xy(5, 0), xy(0, 5), xy(-5, 0), xy(4, -4), -1},
		{xy(5, 0), xy(0, 5), xy(-5, 0), xy(3, -3), 1},
		{xy(-most, -most), xy(most, -most), xy(most, most), xy(-most, most), 0},
		{xy(-most, -most), xy(most, -most), xy(most, most), xy(1-most, most), 1},
		{xy(-most, 1-most), xy(most, 1-most), xy(most, most), xy(-most, -most), -1},
		{xy(-most, -most), xy(most, -most), xy(0, most), xy(0, -most), 1},
		{xy(-most, -most), xy(most, -most), xy(0, most), xy(most, most), -1},
		{xy(-most, -most), xy(most, -most), xy(0, most), xy(most, most/2), 0},
		{xy(-most, -most), xy(most, -most), xy(0, most), xy(most, most/2+1), -1},
		{xy(-most, -most), xy(most, -most), xy(0, most), xy(most, most/2-1), 1},
		{xy(0, -most), xy(0, most), xy(most, 0), xy(-most, 0), 0},
		{xy(0, -most), xy(0, most), xy(most, 0), xy(1-most, 0), 1},
		{xy(0, 0), xy(1, 1), xy(most, most-1), xy(-most, -most), -1},
		{xy(0, 0), xy(1, 1), xy(most, most-1), xy(most, -most), 1},
	} {
		circle, e := exact.Circle(c.a, c.b, c.c, c.d)
		expect(t, "Circle", circle, e, c.want, api.OK)
		checkCircle(t, c.a, c.b, c.c, c.d)
	}
	source := rand.New(rand.NewPCG(6, 4))
	for range 5000 {
		checkCircle(t, someGrid(source), someGrid(source), someGrid(source), someGrid(source))
	}
}

func TestSmallCircles(t *testing.T) { // P6.3: all of them
	var list []api.Point
	for x := range 4 {
		for y := range 4 {
			list = append(list, xy(x-2, y-1))
		}
	}
	for _, a := range list {
		for _, b := range list {
			for _, c := range list {
				for _, d := range list {
					checkCircle(t, a, b, c, d)
				}
			}
		}
	}
}

func TestGreatCircles(t *testing.T) { // P6.3: points on a circle, or hardly beside it
	source := rand.New(rand.NewPCG(6, 5))
	found := [3]int{}
	for range 3000 {
		const k = most / 65
		size := k - source.IntN(3)
		list := []api.Point{xy(33, 56), xy(63, 16), xy(52, 39), xy(25, 60), xy(65, 0), xy(0, 65)}
		for i, p := range list {
			p = xy(p.X*size*(1-2*source.IntN(2)), p.Y*size*(1-2*source.IntN(2)))
			if source.IntN(2) == 0 {
				p = xy(p.Y, p.X)
			}
			list[i] = p
		}
		source.Shuffle(len(list), func(i, j int) { list[i], list[j] = list[j], list[i] })
		if source.IntN(2) == 0 {
			list[3] = beside(source, list[3])
		}
		found[checkCircle(t, list[0], list[1], list[2], list[3])+1]++
	}
	if slices.Min(found[:]) < 100 {
		t.Errorf("only %v points", found)
	}
}

func TestBetween(t *testing.T) { // P6.4
	for _, c := range []struct {
		points [6]string
		want   bool
	}{
		{[6]string{"0", "0", "3", "1", "6/5", "2/5"}, true},
		{[6]string{"0", "0", "3", "1", "0", "0"}, true},
		{[6]string{"0", "0", "3", "1", "3", "1"}, true},
		{[6]string{"0", "0", "3", "1", "6", "2"}, false},
		{[6]string{"0", "0", "3", "1", "-3", "-1"}, false},
		{[6]string{"0", "0", "3", "1", "2", "1"}, false},
		{[6]string{"0", "0", "4", "0", "5/2", "0"}, true},
		{[6]string{"0", "0", "4", "0", "9/2", "0"}, false},
		{[6]string{"0", "0", "4", "0", "-1/2", "0"}, false},
		{[6]string{"0", "0", "4", "0", "2", "1/18446744073709551617"}, false},
		{[6]string{"0", "0", "0", "4", "0", "1"}, true},
		{[6]string{"0", "4", "0", "0", "0", "1"}, true},
		{[6]string{"0", "4", "0", "0", "0", "5"}, false},
		{[6]string{"0", "4", "0", "0", "0", "-1"}, false},
		{[6]string{"0", "4", "4", "0", "1", "3"}, true},
		{[6]string{"0", "4", "4", "0", "5", "-1"}, false},
		{[6]string{"1/2", "3", "1/2", "3", "1/2", "3"}, true},
		{[6]string{"1/2", "3", "1/2", "3", "1/2", "4"}, false},
		{[6]string{"1/2", "3", "1/2", "3", "3/2", "3"}, false},
		{[6]string{"2", "3", "2", "3", "2", "3"}, true},
		{[6]string{"2", "3", "2", "3", "2", "2"}, false},
		{[6]string{"2", "3", "2", "3", "1", "3"}, false},
	} {
		a, b, p := at(t, c.points[0], c.points[1]), at(t, c.points[2], c.points[3]), at(t, c.points[4], c.points[5])
		between, e := exact.Between(a, b, p)
		expect(t, "Between", between, e, c.want, api.OK)
		between, e = exact.Between(b, a, p)
		expect(t, "Between, exchanged", between, e, c.want, api.OK)
	}
	// A point that lies far from the segment is told by the error, too.
	between, e := exact.Between(at(t, "0", "-1"), at(t, "0", "-2"), at(t, "7", greatest().String()))
	expect(t, "Between", between, e, false, api.ErrLimit)
	source := rand.New(rand.NewPCG(6, 6))
	found := 0
	for range 3000 {
		a, b := somePoint(source, 2), somePoint(source, 2)
		switch source.IntN(4) {
		case 0:
			b = a
		case 1:
			b[source.IntN(2)] = a[source.IntN(2)]
		}
		p := along(a, b, big.NewRat(source.Int64N(9)-2, 1+source.Int64N(5)))
		if source.IntN(4) == 0 {
			p = nearPoint(source, p)
		}
		if checkBetween(t, a, b, p) {
			found++
		}
	}
	if found < 500 || found > 2500 {
		t.Errorf("%d points lie between two others", found)
	}
}

func TestBetweenOfGrid(t *testing.T) { // P6.4: all small ones
	for _, a := range smallPoints(3, 1) {
		for _, b := range smallPoints(3, 1) {
			for _, p := range smallPoints(5, 2) {
				checkBetween(t, a, b, p)
			}
		}
	}
}

func TestTurn(t *testing.T) { // P6.5
	rays := raysInOrder()
	for i, a := range rays {
		for j, b := range rays {
			for _, c := range multiples(a) {
				for _, d := range multiples(b) {
					want := 0
					if i < j {
						want = -1
					} else if i > j {
						want = 1
					}
					turn, e := exact.Turn(c, d)
					expect(t, "Turn of "+pairText(c, d), turn, e, want, api.OK)
				}
			}
		}
	}
	source := rand.New(rand.NewPCG(6, 7))
	for range 5000 {
		a, b := someDirection(source), someDirection(source)
		turn, e := exact.Turn(a, b)
		expect(t, "Turn of "+pairText(a, b), turn, e, angles(a, b), api.OK)
	}
}

func TestSector(t *testing.T) { // P6.6
	rays := raysInOrder()
	for i, from := range rays {
		for j, to := range rays {
			for k, d := range rays {
				// How many rays on, counterclockwise, those of d and of to are met.
				whole := len(rays)
				far, end := (k-i+whole)%whole, (j-i+whole)%whole
				if end == 0 {
					end = whole
				}
				for _, x := range multiples(d)[:2] {
					sector, e := exact.Sector(multiples(from)[1], to, x)
					expect(t, "Sector", sector, e, 0 < far && far < end, api.OK)
				}
			}
		}
	}
}

func TestErrorsOfDirections(t *testing.T) { // P6.5, P6.6: the first one is returned
	type bad struct {
		d api.Point
		e api.Errno
	}
	list := []bad{{xy(1, 0), api.OK}, {xy(-mostOfDirection, mostOfDirection), api.OK}, {xy(mostOfDirection, -mostOfDirection), api.OK}, {xy(0, 0), api.ErrArg}}
	for _, p := range farPoints(mostOfDirection) {
		list = append(list, bad{p, api.ErrRange})
	}
	first := func(l ...bad) api.Errno {
		for _, b := range l {
			if b.e != api.OK {
				return b.e
			}
		}
		return api.OK
	}
	for _, a := range list {
		for _, b := range list {
			if want := first(a, b); want != api.OK {
				turn, e := exact.Turn(a.d, b.d)
				expect(t, "Turn", turn, e, 0, want)
			}
			for _, c := range list {
				if want := first(a, b, c); want != api.OK {
					sector, e := exact.Sector(a.d, b.d, c.d)
					expect(t, "Sector", sector, e, false, want)
				} else if _, e := exact.Sector(a.d, b.d, c.d); e != api.OK {
					t.Errorf("Sector of %v, %v and %v: error %d", a.d, b.d, c.d, e)
				}
			}
		}
	}
}

func TestTriangle(t *testing.T) { // P6.7
	for _, c := range []struct {
		corners [6]string
		x, y    string
		want    int
	}{
		{[6]string{"0", "0", "4", "0", "0", "4"}, "1", "1", 1},
		{[6]string{"0", "0", "4", "0", "0", "4"}, "2", "2", 0},
		{[6]string{"0", "0", "4", "0", "0", "4"}, "1", "0", 0},
		{[6]string{"0", "0", "4", "0", "0", "4"}, "0", "1", 0},
		{[6]string{"0", "0", "4", "0", "0", "4"}, "0", "0", 0},
		{[6]string{"0", "0", "4", "0", "0", "4"}, "4", "0", 0},
		{[6]string{"0", "0", "4", "0", "0", "4"}, "0", "4", 0},
		{[6]string{"0", "0", "4", "0", "0", "4"}, "5", "0", -1}, // on the line of a side
		{[6]string{"0", "0", "4", "0", "0", "4"}, "-1", "0", -1},
		{[6]string{"0", "0", "4", "0", "0", "4"}, "0", "-1", -1},
		{[6]string{"0", "0", "4", "0", "0", "4"}, "5", "-1", -1},
		{[6]string{"0", "0", "4", "0", "0", "4"}, "3", "3", -1},
		{[6]string{"0", "0", "4", "0", "0", "4"}, "-1", "-1", -1},
		{[6]string{"0", "0", "4", "0", "0", "4"}, "2", "36893488147419103231/18446744073709551616", 1},
		{[6]string{"0", "0", "4", "0", "0", "4"}, "2", "36893488147419103233/18446744073709551616", -1},
		{[6]string{"0", "0", "4", "2", "2", "1"}, "3", "3/2", 0}, // flat ones
		{[6]string{"0", "0", "4", "2", "2", "1"}, "1", "1/2", 0},
		{[6]string{"0", "0", "2", "1", "4", "2"}, "3", "3/2", 0},
		{[6]string{"2", "1", "4", "2", "0", "0"}, "1", "1/2", 0},
		{[6]string{"0", "0", "4", "2", "2", "1"}, "4", "2", 0},
		{[6]string{"0", "0", "4", "2", "2", "1"}, "5", "5/2", -1},
		{[6]string{"0", "0", "4", "2", "2", "1"}, "-1", "-1/2", -1},
		{[6]string{"0", "0", "4", "2", "2", "1"}, "1", "1", -1},
		{[6]string{"0", "0", "4", "2", "0", "0"}, "2", "1", 0},
		{[6]string{"0", "0", "4", "2", "0", "0"}, "6", "3", -1},
		{[6]string{"3", "3", "3", "3", "3", "3"}, "3", "3", 0},
		{[6]string{"3", "3", "3", "3", "3", "3"}, "3", "4", -1},
		{[6]string{"3", "3", "3", "3", "3", "3"}, "4", "4", -1},
		{[6]string{"1/2", "0", "1/2", "0", "1/2", "0"}, "1/2", "0", 0},
		{[6]string{"1/2", "0", "1/2", "0", "1/2", "0"}, "0", "0", -1},
		{[6]string{"-1073741824", "-1073741824", "1073741824", "-1073741824", "0", "1073741824"}, "0", "1073741823", 1},
		{[6]string{"-1073741824", "-1073741824", "1073741824", "-1073741824", "0", "1073741824"}, "1", "1073741823", -1},
	} {
		a, b, d := parsed(t, c.corners[0], c.corners[1]), parsed(t, c.corners[2], c.corners[3]), parsed(t, c.corners[4], c.corners[5])
		for _, l := range orders(a, b, d) {
			got, e := exact.Triangle(of(t, l[0]), of(t, l[1]), of(t, l[2]), at(t, c.x, c.y))
			expect(t, "Triangle", got, e, c.want, api.OK)
		}
	}
}

func TestSmallTriangles(t *testing.T) { // P6.7: flat ones, too
	for _, a := range smallPoints(3, 1) {
		for _, b := range smallPoints(3, 1) {
			for _, c := range smallPoints(3, 1) {
				for _, p := range smallPoints(4, 2) {
					checkTriangle(t, a, b, c, p)
				}
			}
		}
	}
}

func TestTrianglesOfManySizes(t *testing.T) { // P6.7
	source := rand.New(rand.NewPCG(6, 8))
	found := [3]int{}
	for range 2000 {
		a, b, c := somePoint(source, 2), somePoint(source, 2), somePoint(source, 2)
		switch source.IntN(5) {
		case 0:
			c = along(a, b, someRat(source, 1))
		case 1:
			c = b
		}
		p := along(along(a, b, big.NewRat(source.Int64N(8)-1, 5)), c, big.NewRat(source.Int64N(8)-1, 5))
		if source.IntN(4) == 0 {
			p = nearPoint(source, p)
		}
		found[checkTriangle(t, a, b, c, p)+1]++
	}
	if slices.Min(found[:]) < 200 {
		t.Errorf("only %v points", found)
	}
}

func TestErrorsOfTriangle(t *testing.T) { // P6.7: each of the four sides that is out of range, though no other one is
	root, half := power(8192).String(), power(8191).String()
	for i, points := range [4][8]string{
		{"0", "0", root, "0", "0", root, half, half},
		{"0", "0", root, "0", half, half, "0", root},
		{half, half, "0", "0", root, "0", "0", root},
		{root, "0", half, half, "0", "0", "0", root},
	} {
		a, b, c, p := parsed(t, points[0], points[1]), parsed(t, points[2], points[3]), parsed(t, points[4], points[5]), parsed(t, points[6], points[7])
		for k, l := range sidesOf(a, b, c, p) {
			if fails := failingStep(l[0], l[1], l[2]) < 7; fails != (k == i) {
				t.Fatalf("case %d, side %d: %v", i, k, fails)
			}
		}
		got, e := exact.Triangle(of(t, a), of(t, b), of(t, c), of(t, p))
		expect(t, "Triangle", got, e, 0, api.ErrLimit)
	}
	source := rand.New(rand.NewPCG(6, 9))
	values := []string{"0", "1", "-1", greatest().String(), "-" + greatest().String(), root, "-" + root, half, "1/" + root, power(16383).String()}
	for range 100 {
		var p [4]rats
		for i := range p {
			p[i] = parsed(t, values[source.IntN(len(values))], values[source.IntN(len(values))])
		}
		checkTriangle(t, p[0], p[1], p[2], p[3])
	}
}

func TestTurned(t *testing.T) { // P6.8
	source := rand.New(rand.NewPCG(6, 10))
	for range 1000 {
		p, q, r, s := somePoint(source, 2), somePoint(source, 2), somePoint(source, 2), somePoint(source, 2)
		if source.IntN(3) == 0 {
			r = along(p, q, someRat(source, 1))
		}
		if source.IntN(3) == 0 {
			s = along(p, r, big.NewRat(source.Int64N(4), 3))
		}
		a, b, c, d := of(t, p), of(t, q), of(t, r), of(t, s)
		area, e := exact.Area(a, b, c)
		next, e2 := exact.Area(b, c, a)
		opposite, e3 := exact.Area(b, a, c)
		sum, e4 := frac.Add(area, opposite)
		if e != api.OK || e2 != api.OK || e3 != api.OK || e4 != api.OK || frac.Compare(area, next) != 0 || frac.Sign(sum) != 0 {
			t.Errorf("areas %s, %s and %s, errors %d, %d, %d, %d", area, next, opposite, e, e2, e3, e4)
		}
		want, e := exact.Triangle(a, b, c, d)
		for _, l := range orders(a, b, c) {
			got, e2 := exact.Triangle(l[0], l[1], l[2], d)
			expect(t, "Triangle in another order", got, e2, want, e)
		}
	}
	for range 3000 {
		a, b, c, d := someGrid(source), someGrid(source), someGrid(source), someGrid(source)
		want, e := exact.Circle(a, b, c, d)
		for _, l := range orders(a, b, c) {
			got, e2 := exact.Circle(l[0], l[1], l[2], d)
			expect(t, "Circle in another order", got, e2, want, e)
		}
	}
}

func TestScaled(t *testing.T) { // P6.9
	source := rand.New(rand.NewPCG(6, 11))
	for range 10000 {
		small := func() api.Point { return xy(source.IntN(7)-3, source.IntN(7)-3) }
		a, b, c, d := small(), small(), small(), small()
		k, x, y := 1+source.IntN(most/4), source.IntN(most/4), -source.IntN(most/4)
		scaled := func(p api.Point) api.Point { return xy(p.X*k+x, p.Y*k+y) }
		if k >= most/5 {
			scaled = func(p api.Point) api.Point { return xy(p.X*(k/5)+x, p.Y*(k/5)+y) }
		}
		side, e := exact.SideOf(a, b, c)
		other, e2 := exact.SideOf(scaled(a), scaled(b), scaled(c))
		expect(t, "SideOf, scaled", other, e2, side, e)
		other, e2 = exact.SideOf(mirrored(a), mirrored(b), mirrored(c))
		expect(t, "SideOf, mirrored", other, e2, -side, e)
		circle, e := exact.Circle(a, b, c, d)
		other, e2 = exact.Circle(scaled(a), scaled(b), scaled(c), scaled(d))
		expect(t, "Circle, scaled", other, e2, circle, e)
		other, e2 = exact.Circle(mirrored(a), mirrored(b), mirrored(c), mirrored(d))
		expect(t, "Circle, mirrored", other, e2, circle, e)
	}
}

func TestDirections(t *testing.T) { // P6.10
	source := rand.New(rand.NewPCG(6, 12))
	different := 0
	for range 10000 {
		a, b, c := someDirection(source), someDirection(source), someDirection(source)
		if source.IntN(4) == 0 {
			c = xy(-b.X, -b.Y)
		}
		turn := func(p, q api.Point) int { got, _ := exact.Turn(p, q); return got }
		sector := func(p, q, r api.Point) bool { got, _ := exact.Sector(p, q, r); return got }
		if turn(a, b) != -turn(b, a) || turn(a, a) != 0 {
			t.Errorf("%v and %v: %d, exchanged %d", a, b, turn(a, b), turn(b, a))
		}
		l := []api.Point{a, b, c}
		slices.SortFunc(l, turn)
		if turn(l[0], l[1]) > 0 || turn(l[1], l[2]) > 0 || turn(l[0], l[2]) > 0 {
			t.Errorf("not in one order: %v", l)
		}
		if turn(a, b) == 0 || turn(a, c) == 0 || turn(b, c) == 0 {
			continue
		}
		different++
		if sector(a, b, c) == sector(b, a, c) || sector(a, b, c) != sector(b, c, a) {
			t.Errorf("%v, %v, %v: %v, %v, %v", a, b, c, sector(a, b, c), sector(b, a, c), sector(b, c, a))
		}
	}
	if different < 3000 {
		t.Errorf("only %d are different", different)
	}
}

func TestSectorOfEqualAngles(t *testing.T) { // P6.6: all directions with another angle
	source := rand.New(rand.NewPCG(6, 13))
	for range 3000 {
		a, d := someDirection(source), someDirection(source)
		if source.IntN(3) == 0 {
			d = a
		}
		for _, from := range multiples(a) {
			for _, to := range multiples(a) {
				for _, x := range multiples(d) {
					sector, e := exact.Sector(from, to, x)
					expect(t, "Sector", sector, e, angles(a, d) != 0, api.OK)
				}
			}
		}
	}
}

func TestParts(t *testing.T) { // P6.11
	source := rand.New(rand.NewPCG(6, 14))
	for range 1000 {
		a, b := somePoint(source, 2), somePoint(source, 2)
		p, q := along(a, b, big.NewRat(source.Int64N(6), 5)), along(a, b, big.NewRat(source.Int64N(8), 7))
		first := checkBetween(t, a, p, q)
		if second := checkBetween(t, p, b, q); !first && !second {
			t.Errorf("(%s, %s) lies on neither part", q[0], q[1])
		}
		c := somePoint(source, 2)
		if p = somePoint(source, 2); source.IntN(3) == 0 {
			p = q
		}
		whole, _ := exact.Area(of(t, a), of(t, b), of(t, c))
		sum := frac.Frac{}
		for _, ends := range [][2]rats{{a, b}, {b, c}, {c, a}} {
			area, e := exact.Area(of(t, ends[0]), of(t, ends[1]), of(t, p))
			if sum, _ = frac.Add(sum, area); e != api.OK {
				t.Fatalf("error %d", e)
			}
		}
		if frac.Compare(whole, sum) != 0 {
			t.Errorf("the area %s has the parts %s", whole, sum)
		}
	}
}

func TestExamples(t *testing.T) {
	side, e := exact.SideOf(xy(0, 0), xy(1, 0), xy(0, 1))
	expect(t, "SideOf", side, e, 1, api.OK)
	side, e = exact.Side(at(t, "0", "0"), at(t, "1", "0"), at(t, "0", "1"))
	expect(t, "Side", side, e, 1, api.OK)
	circle, e := exact.Circle(xy(0, 0), xy(2, 0), xy(0, 2), xy(2, 2))
	expect(t, "Circle", circle, e, 0, api.OK)
	circle, e = exact.Circle(xy(0, 0), xy(2, 0), xy(0, 2), xy(1, 1))
	expect(t, "Circle", circle, e, 1, api.OK)
	turn, e := exact.Turn(xy(0, -1), xy(-1, 0))
	expect(t, "Turn", turn, e, 1, api.OK)
}

func TestArgumentsStayAsTheyAre(t *testing.T) { // R1, R3
	texts := [6]string{"340282366920938463463374607431768211455/4", "-1/79228162514264337593543950335", "7/3", "18446744073709551617", "5", "-8/9"}
	a, b, c := at(t, texts[0], texts[1]), at(t, texts[2], texts[3]), at(t, texts[4], texts[5])
	first, _ := exact.Area(a, b, c)
	kept := first.String()
	for range 2 {
		exact.Side(a, b, c)
		exact.Between(a, b, c)
		exact.Triangle(a, b, c, a)
		if again, _ := exact.Area(a, b, c); again.String() != kept || first.String() != kept {
			t.Errorf("the area %s is now %s, and again %s", kept, first, again)
		}
	}
	for i, x := range []frac.Frac{a.X, a.Y, b.X, b.Y, c.X, c.Y} {
		if x.String() != texts[i] {
			t.Errorf("%s has changed to %s", texts[i], x)
		}
	}
}

func FuzzAllArguments(f *testing.F) { // P1, P6.1 to P6.7
	f.Add([]byte{1}, []byte{2}, []byte{3}, []byte{2}, 0, 0, 1, 3, 5, 7, -1, 4)
	f.Add([]byte{255, 255, 255, 255, 255}, []byte{2}, []byte("some bytes"), []byte{3}, most, -most, most, most, -most, -most, most, -most+1)
	f.Add(make([]byte, 2048), []byte(nil), make([]byte, 1100), []byte{1}, most+1, -most, 2*most, -2*most, -2*most-1, 2, 0, 0)
	f.Add([]byte{1}, []byte{1, 0}, []byte{1}, []byte{255, 255}, math.MaxInt, 1, math.MinInt, 3, 0, 0, 0, math.MaxInt)
	f.Fuzz(func(t *testing.T, p, q, r, s []byte, x, y, x2, y2, x3, y3, x4, y4 int) {
		grid := [4]api.Point{xy(x, y), xy(x2, y2), xy(x3, y3), xy(x4, y4)}
		checkSideOf(t, grid[0], grid[1], grid[2])
		checkCircle(t, grid[0], grid[1], grid[2], grid[3])
		checkDirections(t, grid[0], grid[1], grid[2])
		a := rats{ratOfBytes(p, q, x < 0), ratOfBytes(r, s, y < 0)}
		b := rats{ratOfBytes(s, q, x2 < 0), ratOfBytes(r, p, y2 < 0)}
		c, d := ratsOf(point.Of(grid[2])), ratsOf(point.Of(grid[3]))
		checkSide(t, a, b, c)
		checkBetween(t, a, b, a)
		checkBetween(t, a, c, d)
		checkTriangle(t, a, b, c, d)
		checkTriangle(t, b, d, c, a)
		checkTriangle(t, a, a, b, b)
	})
}

// rats is a point whose coordinates are numbers of math/big.
type rats [2]*big.Rat

// checkSide checks Area and Side of three points, and returns the side.
func checkSide(t *testing.T, a, b, c rats) int {
	t.Helper()
	area, e := exact.Area(of(t, a), of(t, b), of(t, c))
	side, e2 := exact.Side(of(t, a), of(t, b), of(t, c))
	if failingStep(a, b, c) < 7 {
		expectArea(t, area, e, "0", api.ErrLimit)
		expect(t, "Side", side, e2, 0, api.ErrLimit)
		return 0
	}
	want := areaOf(a, b, c)
	expectArea(t, area, e, want.RatString(), api.OK)
	expect(t, "Side", side, e2, want.Sign(), api.OK)
	return side
}

// areaOf returns the doubled area as a sum over the sides.
func areaOf(a, b, c rats) *big.Rat {
	sum := new(big.Rat)
	for _, ends := range [][2]rats{{a, b}, {b, c}, {c, a}} {
		sum.Add(sum, new(big.Rat).Mul(ends[0][0], ends[1][1]))
		sum.Sub(sum, new(big.Rat).Mul(ends[0][1], ends[1][0]))
	}
	return sum
}

// failingStep returns the first step of the doubled area that is out of range, from 0 on, or 7 if there is none.
func failingStep(a, b, c rats) int {
	var l [7]*big.Rat
	for i := range l {
		switch i {
		case 0:
			l[i] = difference(b[0], a[0])
		case 1:
			l[i] = difference(c[1], a[1])
		case 2:
			l[i] = product(l[0], l[1])
		case 3:
			l[i] = difference(b[1], a[1])
		case 4:
			l[i] = difference(c[0], a[0])
		case 5:
			l[i] = product(l[3], l[4])
		case 6:
			l[i] = difference(l[2], l[5])
		}
		if l[i] == nil {
			return i
		}
	}
	return 7
}

// difference returns x - y, or nil if one of the integers that P4.2 names is out of range.
func difference(x, y *big.Rat) *big.Rat {
	divisor := new(big.Int).GCD(nil, nil, x.Denom(), y.Denom())
	first, second := new(big.Int).Div(x.Denom(), divisor), new(big.Int).Div(y.Denom(), divisor)
	left, right := new(big.Int).Mul(x.Num(), second), new(big.Int).Mul(y.Num(), first)
	for _, n := range []*big.Int{left, right, new(big.Int).Sub(left, right), new(big.Int).Mul(first, y.Denom())} {
		if n.BitLen() > 16384 {
			return nil
		}
	}
	return new(big.Rat).Sub(x, y)
}

// product returns x * y, or nil if it is out of range (P4.3).
func product(x, y *big.Rat) *big.Rat {
	z := new(big.Rat).Mul(x, y)
	if max(z.Num().BitLen(), z.Denom().BitLen()) > 16384 {
		return nil
	}
	return z
}

func checkSideOf(t *testing.T, a, b, c api.Point) int {
	t.Helper()
	side, e := exact.SideOf(a, b, c)
	if !isValid(a, b, c) {
		expect(t, "SideOf", side, e, 0, api.ErrRange)
		return 0
	}
	expect(t, "SideOf", side, e, areaOf(gridRats(a), gridRats(b), gridRats(c)).Sign(), api.OK)
	other, e := exact.Side(point.Of(a), point.Of(b), point.Of(c))
	expect(t, "Side", other, e, side, api.OK)
	return side
}

// checkCircle compares Circle with the distances of points from the centre, and returns it.
func checkCircle(t *testing.T, a, b, c, d api.Point) int {
	t.Helper()
	circle, e := exact.Circle(a, b, c, d)
	if !isValid(a, b, c, d) {
		expect(t, "Circle", circle, e, 0, api.ErrRange)
		return 0
	}
	twice := areaOf(gridRats(a), gridRats(b), gridRats(c)).Num() // an integer: the doubled area
	if twice.Sign() == 0 {
		expect(t, "Circle", circle, e, 0, api.ErrArg)
		return 0
	}
	twice = new(big.Int).Lsh(twice, 1)
	// The centre is a + (u, v) / twice, with the ways p and q from a to b and c.
	px, py, qx, qy := integer(b.X-a.X), integer(b.Y-a.Y), integer(c.X-a.X), integer(c.Y-a.Y)
	pp, qq := squares(px, py), squares(qx, qy)
	u := new(big.Int).Sub(new(big.Int).Mul(qy, pp), new(big.Int).Mul(py, qq))
	v := new(big.Int).Sub(new(big.Int).Mul(px, qq), new(big.Int).Mul(qx, pp))
	dx, dy := new(big.Int).Mul(twice, integer(d.X-a.X)), new(big.Int).Mul(twice, integer(d.Y-a.Y))
	expect(t, "Circle", circle, e, squares(u, v).Cmp(squares(dx.Sub(dx, u), dy.Sub(dy, v))), api.OK)
	return circle
}

func squares(x, y *big.Int) *big.Int {
	z := new(big.Int).Mul(x, x)
	return z.Add(z, new(big.Int).Mul(y, y))
}

func checkBetween(t *testing.T, a, b, p rats) bool {
	t.Helper()
	between, e := exact.Between(of(t, a), of(t, b), of(t, p))
	if failingStep(a, b, p) < 7 {
		expect(t, "Between", between, e, false, api.ErrLimit)
		return false
	}
	expect(t, "Between", between, e, onSegment(a, b, p), api.OK)
	return between
}

// onSegment reports whether p is a + s (b - a) for some s from 0 to 1.
func onSegment(a, b, p rats) bool {
	for i := range a {
		way := new(big.Rat).Sub(b[i], a[i])
		if way.Sign() == 0 {
			continue
		}
		s := new(big.Rat).Quo(new(big.Rat).Sub(p[i], a[i]), way)
		return s.Sign() >= 0 && s.Cmp(big.NewRat(1, 1)) <= 0 && sameRats(along(a, b, s), p)
	}
	return sameRats(a, p)
}

func checkTriangle(t *testing.T, a, b, c, p rats) int {
	t.Helper()
	got, e := exact.Triangle(of(t, a), of(t, b), of(t, c), of(t, p))
	if failsAnySide(a, b, c, p) {
		expect(t, "Triangle", got, e, 0, api.ErrLimit)
		return 0
	}
	expect(t, "Triangle", got, e, inTriangle(a, b, c, p), api.OK)
	return got
}

// inTriangle tells where a point lies: whether it is a + u (b - a) + v (c - a), where u, v and 1 - u - v are positive.
func inTriangle(a, b, c, p rats) int {
	if onSegment(a, b, p) || onSegment(b, c, p) || onSegment(c, a, p) {
		return 0
	}
	whole := areaOf(a, b, c)
	if whole.Sign() == 0 {
		return -1
	}
	u, v := new(big.Rat).Quo(areaOf(a, p, c), whole), new(big.Rat).Quo(areaOf(a, b, p), whole)
	if u.Sign() > 0 && v.Sign() > 0 && new(big.Rat).Add(u, v).Cmp(big.NewRat(1, 1)) < 0 {
		return 1
	}
	return -1
}

// sidesOf returns the points of which P6.7 asks for the sides.
func sidesOf(a, b, c, p rats) [4][3]rats {
	return [4][3]rats{{a, b, c}, {a, b, p}, {b, c, p}, {c, a, p}}
}

func failsAnySide(a, b, c, p rats) bool {
	for _, l := range sidesOf(a, b, c, p) {
		if failingStep(l[0], l[1], l[2]) < 7 {
			return true
		}
	}
	return false
}

// checkDirections checks Turn of the first two of three points, and Sector.
func checkDirections(t *testing.T, a, b, c api.Point) {
	t.Helper()
	turn, e := exact.Turn(a, b)
	if want := directionError(a, b); want != api.OK {
		expect(t, "Turn", turn, e, 0, want)
	} else {
		expect(t, "Turn", turn, e, angles(a, b), api.OK)
	}
	sector, e := exact.Sector(a, b, c)
	if want := directionError(a, b, c); want != api.OK {
		expect(t, "Sector", sector, e, false, want)
		return
	}
	// If b is met first, or at the same time, c is not; else they follow one another in the order a, c, b.
	want := angles(a, c) != 0
	if angles(a, b) != 0 {
		want = want && angles(b, c) != 0 && angles(a, c)+angles(c, b)+angles(b, a) < 0
	}
	expect(t, "Sector", sector, e, want, api.OK)
}

func directionError(points ...api.Point) api.Errno {
	for _, p := range points {
		if p.X < -mostOfDirection || p.X > mostOfDirection || p.Y < -mostOfDirection || p.Y > mostOfDirection {
			return api.ErrRange
		}
		if p.X == 0 && p.Y == 0 {
			return api.ErrArg
		}
	}
	return api.OK
}

// angles compares the angles of two directions: by their quarters, and the slopes within these.
func angles(a, b api.Point) int {
	quarter := func(p api.Point) int {
		switch {
		case p.X > 0 && p.Y >= 0:
			return 0
		case p.Y > 0:
			return 1
		case p.X < 0:
			return 2
		default:
			return 3
		}
	}
	slope := func(p api.Point) *big.Rat { // turned back into the first quarter
		for range quarter(p) {
			p = xy(p.Y, -p.X)
		}
		return big.NewRat(int64(p.Y), int64(p.X))
	}
	if quarter(a) != quarter(b) {
		return min(1, max(-1, quarter(a)-quarter(b)))
	}
	return slope(a).Cmp(slope(b))
}

// raysInOrder returns directions of which each has a greater angle than the one before.
func raysInOrder() []api.Point {
	const m = mostOfDirection
	quarter := []api.Point{xy(1, 0), xy(m, 1), xy(m-1, 1), xy(7, 2), xy(m-1, m-2), xy(m, m-1), xy(1, 1), xy(m-1, m), xy(m-2, m-1), xy(2, 7), xy(1, m-1), xy(1, m)}
	var rays []api.Point
	for range 4 {
		rays = append(rays, quarter...)
		for i, p := range quarter {
			quarter[i] = xy(-p.Y, p.X)
		}
	}
	return rays
}

// multiples returns directions with the same angle.
func multiples(d api.Point) []api.Point {
	far := max(d.X, -d.X, d.Y, -d.Y)
	list := []api.Point{d}
	for _, k := range []int{mostOfDirection / far, mostOfDirection/far/2 + 1} {
		if k*far > mostOfDirection {
			k = 1
		}
		list = append(list, xy(d.X*k, d.Y*k))
	}
	return list
}

func someDirection(source *rand.Rand) api.Point {
	for {
		p := someGrid(source)
		switch source.IntN(4) {
		case 0:
			p = xy(p.X*2, p.Y*2)
		case 1:
			p = xy(source.IntN(5)-2, source.IntN(5)-2)
		}
		if p != xy(0, 0) {
			return p
		}
	}
}

// farPoints returns points with a coordinate that is farther from 0 than a limit, and some whose products wrap around.
func farPoints(limit int) []api.Point {
	var list []api.Point
	for _, far := range []int{limit + 1, -limit - 1, 1 << 32, -1 << 32, 1<<32 + 1, 1 << 62, math.MaxInt, math.MinInt, math.MinInt + 1} {
		list = append(list, xy(far, 0), xy(0, far), xy(far, far), xy(far, limit), xy(-limit, far))
	}
	return list
}

// expect reports a result or an error that is not the expected one.
func expect[T comparable](t *testing.T, name string, got T, e api.Errno, want T, errno api.Errno) {
	t.Helper()
	if got != want || e != errno {
		t.Fatalf("%.90s: %v, error %d, want %v, error %d", name, got, e, want, errno)
	}
}

func expectArea(t *testing.T, got frac.Frac, e api.Errno, want string, errno api.Errno) {
	t.Helper()
	expect(t, "Area", got.String(), e, want, errno)
}

func at(t *testing.T, x, y string) point.P {
	t.Helper()
	a, e := frac.Parse(x)
	b, e2 := frac.Parse(y)
	if e != api.OK || e2 != api.OK {
		t.Fatalf("frac.Parse(%.60s): %d, frac.Parse(%.60s): %d", x, e, y, e2)
	}
	return point.P{X: a, Y: b}
}

func of(t *testing.T, p rats) point.P {
	t.Helper()
	return at(t, p[0].RatString(), p[1].RatString())
}

func parsed(t *testing.T, x, y string) rats {
	t.Helper()
	return ratsOf(at(t, x, y))
}

func ratsOf(p point.P) rats {
	x, _ := new(big.Rat).SetString(p.X.String())
	y, _ := new(big.Rat).SetString(p.Y.String())
	return rats{x, y}
}

func gridRats(p api.Point) rats {
	return rats{new(big.Rat).SetInt(integer(p.X)), new(big.Rat).SetInt(integer(p.Y))}
}

func sameRats(a, b rats) bool {
	return a[0].Cmp(b[0]) == 0 && a[1].Cmp(b[1]) == 0
}

// along returns a + s (b - a).
func along(a, b rats, s *big.Rat) rats {
	var p rats
	for i := range p {
		way := new(big.Rat).Sub(b[i], a[i])
		p[i] = way.Add(way.Mul(way, s), a[i])
	}
	return p
}

// orders returns three elements in all orders.
func orders[T any](a, b, c T) [][3]T {
	return [][3]T{{a, b, c}, {b, c, a}, {c, a, b}, {a, c, b}, {c, b, a}, {b, a, c}}
}

func xy(x, y int) api.Point {
	return api.Point{X: x, Y: y}
}

func mirrored(p api.Point) api.Point {
	return xy(p.Y, p.X)
}

func pairText(a, b api.Point) string {
	text := ""
	for _, n := range []int{a.X, a.Y, b.X, b.Y} {
		text += strconv.Itoa(n) + " "
	}
	return text
}

func isValid(points ...api.Point) bool {
	for _, p := range points {
		if p.X < -most || p.X > most || p.Y < -most || p.Y > most {
			return false
		}
	}
	return true
}

func integer(n int) *big.Int {
	return big.NewInt(int64(n))
}

func power(n uint) *big.Int {
	return new(big.Int).Lsh(big.NewInt(1), n)
}

// greatest returns the greatest wide integer.
func greatest() *big.Int {
	return new(big.Int).Sub(power(16384), big.NewInt(1))
}

// smallPoints returns the points from (0, 0) to (n - 1, n - 1), divided by den.
func smallPoints(n, den int64) []rats {
	var list []rats
	for x := range n {
		for y := range n {
			list = append(list, rats{big.NewRat(x, den), big.NewRat(y, den)})
		}
	}
	return list
}

// someGrid returns a valid point of the grid, often at the limits, or near (0, 0).
func someGrid(source *rand.Rand) api.Point {
	var l [2]int
	for i := range l {
		switch source.IntN(5) {
		case 0:
			l[i] = []int{-most, 1 - most, most - 1, most}[source.IntN(4)]
		case 1, 2:
			l[i] = source.IntN(7) - 3
		default:
			l[i] = source.IntN(2*most+1) - most
		}
	}
	return xy(l[0], l[1])
}

// beside returns a valid point of the grid near another one.
func beside(source *rand.Rand, p api.Point) api.Point {
	q := xy(p.X+source.IntN(3)-1, p.Y+source.IntN(3)-1)
	if !isValid(q) {
		return p
	}
	return q
}

// someInteger returns an integer with at most so many words, which are often all zeros or all ones.
func someInteger(source *rand.Rand, words int) *big.Int {
	x := new(big.Int)
	for range source.IntN(words) + 1 {
		word := source.Uint32()
		switch source.IntN(6) {
		case 0:
			word = 0
		case 1:
			word = math.MaxUint32
		case 2:
			word >>= source.IntN(32)
		}
		x.Lsh(x, 32).Or(x, big.NewInt(int64(word)))
	}
	if source.IntN(2) == 0 {
		x.Neg(x)
	}
	return x
}

// someRat returns a fraction of integers with at most so many words.
func someRat(source *rand.Rand, words int) *big.Rat {
	p, q := someInteger(source, words), someInteger(source, words)
	if q.Sign() == 0 || source.IntN(4) == 0 {
		q = big.NewInt(1)
	}
	return new(big.Rat).SetFrac(p, q)
}

func somePoint(source *rand.Rand, words int) rats {
	return rats{someRat(source, words), someRat(source, words)}
}

// nearPoint returns a point that differs hardly from another one, in one coordinate.
func nearPoint(source *rand.Rand, p rats) rats {
	i := source.IntN(2)
	p[i] = new(big.Rat).Add(p[i], new(big.Rat).SetFrac(big.NewInt(source.Int64N(3)-1), power(100)))
	return p
}

// ratOfBytes returns a fraction in range; the denominator is 1 if there would be none.
func ratOfBytes(p, q []byte, minus bool) *big.Rat {
	num, den := new(big.Int).SetBytes(p[:min(len(p), 2048)]), new(big.Int).SetBytes(q[:min(len(q), 2048)])
	if den.Sign() == 0 {
		den = big.NewInt(1)
	}
	if minus {
		num.Neg(num)
	}
	return new(big.Rat).SetFrac(num, den)
}
