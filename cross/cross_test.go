package cross_test

import (
	"math"
	"math/big"
	"math/rand/v2"
	"slices"
	"strconv"
	"strings"
	"testing"

	"meresman/api"
	"meresman/cross"
	"meresman/exact"
	"meresman/frac"
	"meresman/point"
)

// Expected results are computed by math/big, from the equations of both lines, or stand in the text of the chapter.

const most = api.MaxCoord

func TestKinds(t *testing.T) {
	expect(t, "the kinds", [3]int{cross.Apart, cross.Touch, cross.Along}, api.OK, [3]int{0, 1, 2}, api.OK)
}

func TestValid(t *testing.T) { // P7.1
	for _, s := range []api.Seg{
		seg(0, 0, 1, 0),
		seg(0, 0, 0, 1),
		seg(0, 1, 0, 0),
		seg(5, 7, 7, 5),
		seg(5, 7, 5, 8),
		seg(5, 7, 4, 7),
		seg(-most, -most, most, most),
		seg(most, -most, -most, most),
		seg(most, most, most, most-1),
		seg(-most, -most, 1-most, -most),
	} {
		expect(t, "Valid", 0, cross.Valid(s), 0, api.OK)
	}
	for _, b := range badSegments() {
		expect(t, "Valid of "+segText(b), 0, cross.Valid(b), 0, segmentError(b))
	}
	for _, p := range []api.Point{xy(0, 0), xy(3, -4), xy(most, most), xy(-most, most)} {
		expect(t, "Valid of equal ends", 0, cross.Valid(api.Seg{A: p, B: p}), 0, api.ErrArg)
	}
	for _, p := range farPoints() { // both ends are equal, but ErrRange comes first
		expect(t, "Valid of equal ends out of range", 0, cross.Valid(api.Seg{A: p, B: p}), 0, api.ErrRange)
		expect(t, "Valid", 0, cross.Valid(api.Seg{A: p}), 0, api.ErrRange)
		expect(t, "Valid", 0, cross.Valid(api.Seg{B: p}), 0, api.ErrRange)
	}
}

func TestNormal(t *testing.T) { // P7.1
	for _, c := range []struct{ s, want api.Seg }{
		{seg(0, 0, 1, 0), seg(0, 0, 1, 0)},
		{seg(1, 0, 0, 0), seg(0, 0, 1, 0)},
		{seg(0, 0, 0, 1), seg(0, 0, 0, 1)},
		{seg(0, 1, 0, 0), seg(0, 0, 0, 1)},
		{seg(1, -5, 0, 7), seg(0, 7, 1, -5)},
		{seg(0, 7, 1, -5), seg(0, 7, 1, -5)},
		{seg(-1, 0, -2, 0), seg(-2, 0, -1, 0)},
		{seg(3, -1, 3, -2), seg(3, -2, 3, -1)},
		{seg(most, -most, -most, most), seg(-most, most, most, -most)},
		{seg(most, most, most, -most), seg(most, -most, most, most)},
		{seg(9, 100, 10, 20), seg(9, 100, 10, 20)}, // not in the order of texts
	} {
		got, e := cross.Normal(c.s)
		expect(t, "Normal of "+segText(c.s), got, e, c.want, api.OK)
	}
	for _, b := range badSegments() {
		got, e := cross.Normal(b)
		expect(t, "Normal of "+segText(b), got, e, api.Seg{}, segmentError(b))
	}
	source := rand.New(rand.NewPCG(7, 1))
	for range 3000 {
		s := someSegment(source)
		got, e := cross.Normal(s)
		if e != api.OK || got != s && got != reversed(s) || point.Compare(point.Of(got.A), point.Of(got.B)) >= 0 {
			t.Errorf("Normal of %s: %s, error %d", segText(s), segText(got), e)
		}
	}
}

func TestMeet(t *testing.T) { // P7.2
	for _, c := range []struct {
		s, t api.Seg
		want string
	}{
		{seg(0, 0, 2, 2), seg(0, 1, 1, 0), "1: 1/2 1/2, 0 0"},
		{seg(0, 0, 4, 0), seg(6, 0, 2, 0), "2: 2 0, 4 0"},
		{seg(0, 0, 2, 0), seg(2, 0, 4, 0), "1: 2 0, 0 0"},
		{seg(0, 0, 3, 1), seg(0, 1, 2, 0), "1: 6/5 2/5, 0 0"},
		{seg(0, 0, 4, 0), seg(1, 0, 3, 0), "2: 1 0, 3 0"}, // one within the other one
		{seg(0, 0, 4, 0), seg(3, 0, 0, 0), "2: 0 0, 3 0"},
		{seg(0, 0, 4, 0), seg(4, 0, 0, 0), "2: 0 0, 4 0"},
		{seg(0, 0, 4, 0), seg(5, 0, 7, 0), "0: 0 0, 0 0"}, // on one line
		{seg(0, 4, 0, 0), seg(0, 2, 0, 7), "2: 0 2, 0 4"},
		{seg(0, 4, 0, 0), seg(0, 7, 0, 4), "1: 0 4, 0 0"},
		{seg(0, 4, 0, 0), seg(0, 7, 0, 5), "0: 0 0, 0 0"},
		{seg(0, 4, 4, 0), seg(1, 3, 3, 1), "2: 1 3, 3 1"},
		{seg(0, 4, 4, 0), seg(7, -3, 2, 2), "2: 2 2, 4 0"},
		{seg(0, 0, 6, 4), seg(9, 6, 3, 2), "2: 3 2, 6 4"},
		{seg(0, 0, 4, 0), seg(0, 1, 4, 1), "0: 0 0, 0 0"}, // parallel
		{seg(0, 0, 4, 4), seg(1, 0, 5, 4), "0: 0 0, 0 0"},
		{seg(0, 0, 4, 2), seg(2, 1, 0, 5), "1: 2 1, 0 0"}, // an end within the other one
		{seg(0, 0, 4, 2), seg(3, 7, 2, 1), "1: 2 1, 0 0"},
		{seg(0, 0, 4, 2), seg(0, 0, 1, 7), "1: 0 0, 0 0"}, // a common end
		{seg(0, 0, 4, 2), seg(1, 7, 4, 2), "1: 4 2, 0 0"},
		{seg(0, 0, 4, 2), seg(6, 3, 0, 5), "0: 0 0, 0 0"}, // an end on the line of the other one
		{seg(0, 0, 4, 2), seg(-1, 7, -2, -1), "0: 0 0, 0 0"},
		{seg(0, 0, 4, 2), seg(2, 2, 0, 1), "0: 0 0, 0 0"}, // beside it, in its box
		{seg(0, 0, 4, 4), seg(3, 0, 2, 1), "0: 0 0, 0 0"}, // ends on different sides of the line of the other one only
		{seg(3, 0, 2, 1), seg(4, 4, 0, 0), "0: 0 0, 0 0"},
		{seg(0, 0, 4, 0), seg(2, 5, 2, -5), "1: 2 0, 0 0"},
		{seg(0, 0, 7, 3), seg(0, 2, 7, 0), "1: 14/5 6/5, 0 0"},
		{seg(-7, 3, 0, 0), seg(-7, 1, 0, 2), "1: -7/2 3/2, 0 0"},
		{seg(-most, -most, most, most), seg(-most, most, most, -most), "1: 0 0, 0 0"},
		{seg(-most, most, most, -most), seg(most, most, -most, -most), "1: 0 0, 0 0"},
		{seg(-most, -most, most, most), seg(-most, most, most, 1-most), "1: 1073741824/4294967295 1073741824/4294967295, 0 0"},
		{seg(-most, -most, most, most), seg(-most, -most, most, most-1), "1: -1073741824 -1073741824, 0 0"},
		{seg(-most, -most, most, most-1), seg(1-most, 1-most, most, most), "0: 0 0, 0 0"}, // hardly apart
		{seg(-most, -most, most, most-1), seg(-most, 1-most, most, most), "0: 0 0, 0 0"},
		{seg(-most, -most, most, most-1), seg(1-most, -most, most, most), "1: 1073741824/4294967295 -1073741824/4294967295, 0 0"},
		{seg(-most, -most, most, most-1), seg(-most, 1-most, most, most-2), "1: 0 -1/2, 0 0"},
		{seg(-most, 0, most, 1), seg(-most, 1, most, 0), "1: 0 1/2, 0 0"},
		{seg(-most, 0, most, 1), seg(1-most, 1, most, 0), "1: 1073741824/4294967295 2147483648/4294967295, 0 0"},
		{seg(-most, -most, most, -most), seg(-most, -most, -most, most), "1: -1073741824 -1073741824, 0 0"},
		{seg(-most, -most, most, most), seg(most, most, 0, 0), "2: 0 0, 1073741824 1073741824"},
	} {
		got, e := cross.Meet(c.s, c.t)
		expect(t, "Meet of "+segText(c.s)+"and "+segText(c.t), cutText(got), e, c.want, api.OK)
		checkMeet(t, c.s, c.t)
	}
}

func TestMeetOfSmallSegments(t *testing.T) { // P7.2: all of them
	list := smallSegments(4)
	kinds := [3]int{}
	for _, s := range list {
		for _, r := range list {
			kinds[checkMeet(t, s, r).Kind]++
		}
	}
	if slices.Min(kinds[:]) < 1000 {
		t.Errorf("only %v pairs of the kinds", kinds)
	}
}

func TestMeetOfManySizes(t *testing.T) { // P7.2, P7.3
	source := rand.New(rand.NewPCG(7, 2))
	kinds := [3]int{}
	for range 20000 {
		s, r := somePair(source)
		cut := checkMeet(t, s, r)
		kinds[cut.Kind]++
		if cut.Kind != cross.Apart && source.IntN(10) == 0 {
			for _, p := range []rats{ratsOf(cut.At), ratsOf(cut.To), nearPoint(source, ratsOf(cut.At))} {
				checkOn(t, s, p)
				checkOn(t, r, p)
			}
		}
	}
	if slices.Min(kinds[:]) < 1000 {
		t.Errorf("only %v pairs of the kinds", kinds)
	}
}

func TestErrorsOfMeet(t *testing.T) { // P7.2: the first one is returned
	list := append(badSegments(), seg(0, 0, 2, 2), seg(0, 1, 1, 0), seg(-most, most, most, -most))
	for _, s := range list {
		for _, r := range list {
			checkMeet(t, s, r)
		}
	}
	equal, far := seg(1, 1, 1, 1), seg(0, 0, 0, most+1)
	_, e := cross.Meet(equal, far)
	expect(t, "Meet", 0, e, 0, api.ErrArg)
	_, e = cross.Meet(far, equal)
	expect(t, "Meet", 0, e, 0, api.ErrRange)
}

func TestOn(t *testing.T) { // P7.3
	for _, c := range []struct {
		s    api.Seg
		x, y string
		want bool
	}{
		{seg(0, 0, 3, 1), "6/5", "2/5", true},
		{seg(3, 1, 0, 0), "6/5", "2/5", true},
		{seg(0, 0, 3, 1), "0", "0", true},
		{seg(0, 0, 3, 1), "3", "1", true},
		{seg(0, 0, 3, 1), "6", "2", false},
		{seg(0, 0, 3, 1), "-3", "-1", false},
		{seg(0, 0, 3, 1), "2", "1", false},
		{seg(0, 0, 3, 1), "6/5", "36893488147419103233/92233720368547758080", false},
		{seg(0, 0, 4, 0), "5/2", "0", true},
		{seg(0, 0, 4, 0), "9/2", "0", false},
		{seg(0, 0, 4, 0), "-1/2", "0", false},
		{seg(0, 0, 4, 0), "2", "1/18446744073709551617", false},
		{seg(0, 0, 4, 0), "73786976294838206469/18446744073709551617", "0", false},
		{seg(0, 0, 4, 0), "73786976294838206467/18446744073709551617", "0", true},
		{seg(0, 4, 0, 0), "0", "1", true},
		{seg(0, 4, 0, 0), "0", "5", false},
		{seg(0, 4, 0, 0), "0", "-1", false},
		{seg(0, 4, 0, 0), "1", "1", false},
		{seg(0, 4, 4, 0), "1/2", "7/2", true},
		{seg(0, 4, 4, 0), "5", "-1", false},
		{seg(-most, -most, most, most), "0", "0", true},
		{seg(-most, -most, most, most), "1", "0", false},
		{seg(-most, -most, most, most-1), "1073741823", "1073741822", false},
		{seg(-most, -most, most, most-1), "0", "-1/2", true},
		{seg(-most, -most, most, most), "1073741825", "1073741825", false},
	} {
		got, e := cross.On(c.s, at(t, c.x, c.y))
		expect(t, "On "+segText(c.s)+c.x+" "+c.y, got, e, c.want, api.OK)
		checkOn(t, c.s, ratsOf(at(t, c.x, c.y)))
	}
	for _, s := range smallSegments(3) {
		for x := range int64(11) {
			for y := range int64(11) {
				checkOn(t, s, rats{big.NewRat(x-1, 4), big.NewRat(y-1, 4)})
			}
		}
	}
}

func TestOnOfManySizes(t *testing.T) { // P7.3
	source := rand.New(rand.NewPCG(7, 3))
	found := 0
	for range 5000 {
		s := someSegment(source)
		p := along(gridRats(s.A), gridRats(s.B), new(big.Rat).SetFrac(someInteger(source, 2), someInteger(source, 2).SetBit(new(big.Int), 64, 1)))
		if source.IntN(4) == 0 {
			p = nearPoint(source, p)
		}
		if checkOn(t, s, p) {
			found++
		}
	}
	if found < 500 || found > 4500 {
		t.Errorf("%d points lie on segments", found)
	}
}

func TestOnOfFarPoints(t *testing.T) { // P7.3: points that differ from the ends by numbers out of range are no error
	top := new(big.Int).Sub(new(big.Int).Lsh(big.NewInt(1), 16384), big.NewInt(1)).String()
	for _, s := range []api.Seg{seg(0, 0, 3, 1), seg(-most, -most, most, most), seg(1, 1, -1, -1), seg(0, -1, 0, 1), seg(-1, 0, 1, 0)} {
		for _, x := range []string{top, "-" + top, "0", "1/" + top, top + "/2"} {
			for _, y := range []string{top, "-" + top, "0", "-1/" + top} {
				checkOn(t, s, ratsOf(at(t, x, y)))
			}
		}
	}
	for _, b := range badSegments() {
		for _, x := range []string{"0", "1/2", top, "1/" + top} {
			got, e := cross.On(b, at(t, x, x))
			expect(t, "On "+segText(b), got, e, false, segmentError(b))
		}
	}
}

func TestOnOfLongFractions(t *testing.T) { // P7.3: points of which exact.Side has steps out of range
	source := rand.New(rand.NewPCG(7, 4))
	found := [2]int{}
	for i := range 36 {
		s := someSegment(source)
		p := longPoint(source, s)
		switch i % 6 {
		case 3: // hardly beside it
			p[i/6%2] = besideRat(p[i/6%2])
		case 4: // beside it by a way between points of the grid
			p[i/6%2] = new(big.Rat).Add(p[i/6%2], big.NewRat(1, 1))
		case 5: // somewhere in the box
			p[0] = longPoint(source, s)[0]
		}
		if max(p[0].Num().BitLen(), p[1].Num().BitLen()) > 16384 {
			continue
		}
		if _, e := exact.Side(point.Of(s.A), point.Of(s.B), of(t, p)); e != api.ErrLimit {
			continue
		}
		if checkOn(t, s, p) {
			found[0]++
		} else {
			found[1]++
		}
	}
	if slices.Min(found[:]) < 10 {
		t.Errorf("only %v points", found)
	}
}

func TestOnOfFractionsBelowIntegers(t *testing.T) { // P7.3: whose denominators, times the nearest integers, are out of range
	limit := new(big.Int).Lsh(big.NewInt(1), 16384)
	for _, k := range []int64{1, 2, 3, most} {
		den := new(big.Int).Div(limit, big.NewInt(k))
		den.SetBit(den.Add(den, big.NewInt(2)), 0, 1)
		if k == 1 {
			den = new(big.Int).Sub(limit, big.NewInt(1))
		}
		x := quotientBelow(new(big.Int).Sub(limit, big.NewInt(7)), den) // hardly less than k
		next := besideRat(x)
		opposite, negative := new(big.Rat).Neg(x), new(big.Rat).Neg(next)
		for _, s := range []api.Seg{seg(-most, -most, most, most), seg(most, -most, -most, most)} {
			for _, p := range []rats{{x, x}, {x, next}, {next, x}, {x, opposite}, {x, negative}, {opposite, opposite}, {opposite, next}, {negative, x}} {
				checkOn(t, s, p)
			}
		}
	}
}

func TestOnOfLongFractionsNearZero(t *testing.T) { // P7.3: whose sums with 1, or with -1, are out of range
	den := new(big.Int).Lsh(big.NewInt(1), 16384)
	den.Sub(den, big.NewInt(3))
	for _, k := range []int64{3, 4, 7, -3, -4, -7} {
		y := quotientBelow(new(big.Int).Div(den, big.NewInt(k)), den)
		x := new(big.Rat).Mul(y, big.NewRat(3, 1))
		for _, p := range []rats{{x, y}, {x, besideRat(y)}} {
			checkOn(t, seg(-3, -1, 3, 1), p)
			checkOn(t, seg(1, 3, -1, -3), rats{p[1], p[0]})
		}
	}
}

func TestParts(t *testing.T) { // P7.4
	for _, c := range []struct {
		s      api.Seg
		others []api.Seg
		points []api.Point
		want   string
	}{
		{seg(0, 0, 4, 0), nil, nil, "0 0, 4 0"},
		{seg(4, 0, 0, 0), nil, nil, "0 0, 4 0"},
		{seg(0, 4, 0, -4), nil, []api.Point{xy(0, 1), xy(0, 5), xy(1, 1), xy(0, 1)}, "0 -4, 0 1, 0 4"},
		{seg(0, 0, 4, 0), []api.Seg{seg(3, 1, 3, -1), seg(1, 1, 2, -1), seg(1, 0, 1, 5), seg(0, 1, 4, 1)}, nil, "0 0, 1 0, 3/2 0, 3 0, 4 0"},
		{seg(0, 0, 4, 0), []api.Seg{seg(3, 0, 2, 0), seg(7, 0, 3, 0), seg(2, 0, -1, 0)}, nil, "0 0, 2 0, 3 0, 4 0"},
		{seg(0, 0, 4, 0), []api.Seg{seg(0, 0, 4, 0), seg(4, 0, 0, 0), seg(4, 0, 9, 0), seg(5, 0, 9, 0), seg(-9, 0, 9, 0)}, nil, "0 0, 4 0"},
		{seg(0, 0, 4, 0), []api.Seg{seg(2, 1, 2, -1), seg(1, 1, 3, -1), seg(1, 0, 2, 0)}, []api.Point{xy(2, 0), xy(3, 0), xy(0, 0), xy(2, 0)}, "0 0, 1 0, 2 0, 3 0, 4 0"},
		{seg(0, 0, 4, 0), nil, []api.Point{xy(5, 0), xy(-1, 0), xy(2, 1), xy(2, -1), xy(4, 0)}, "0 0, 4 0"},
		{seg(3, 1, 0, 0), []api.Seg{seg(0, 1, 2, 0)}, []api.Point{xy(1, 0)}, "0 0, 6/5 2/5, 3 1"},
		{seg(2, 2, 0, 0), []api.Seg{seg(0, 1, 1, 0), seg(0, 3, 3, 0)}, []api.Point{xy(1, 1)}, "0 0, 1/2 1/2, 1 1, 3/2 3/2, 2 2"},
		{seg(0, 3, 3, 0), []api.Seg{seg(0, 0, 9, 9), seg(0, 1, 9, 10), seg(1, 2, 9, -6)}, []api.Point{xy(2, 1)}, "0 3, 1 2, 3/2 3/2, 2 1, 3 0"},
		{seg(-most, -most, most, most), []api.Seg{seg(-most, most, most, -most), seg(most, most, 1, 1)}, []api.Point{xy(most, most), xy(-most, -most), xy(most, -most), xy(-5, -5)}, "-1073741824 -1073741824, -5 -5, 0 0, 1 1, 1073741824 1073741824"},
	} {
		got, e := cross.Parts(c.s, c.others, c.points)
		expect(t, "Parts of "+segText(c.s), pointsText(got), e, c.want, api.OK)
		checkParts(t, c.s, c.others, c.points)
	}
}

func TestPartsOfManySegments(t *testing.T) { // P7.4
	source := rand.New(rand.NewPCG(7, 5))
	longest := 0
	for range 1500 {
		s, others, points := someMap(source)
		longest = max(longest, len(checkParts(t, s, others, points)))
	}
	if longest < 8 {
		t.Errorf("at most %d dividing points", longest)
	}
	var fan []api.Seg
	for i := range 512 {
		fan = append(fan, seg(-i, 100, i, -100-i%7), seg(i-256, 0, 300-i, 0))
	}
	var points []api.Point
	for i := range 256 {
		points = append(points, xy((i*77)%256-128, i%5/4))
	}
	checkParts(t, seg(200, 0, -200, 0), fan, points)
}

func TestErrorsOfParts(t *testing.T) { // P7.4: the first one is returned
	good := seg(0, 0, 4, 4)
	equal, far := seg(1, 1, 1, 1), seg(0, 0, 0, -most-1)
	others := [][]api.Seg{nil, {good}, {good, equal, far}, {far, equal}, {good, good, far}, {equal}}
	points := [][]api.Point{nil, {xy(2, 2)}, {xy(2, 2), xy(most+1, 0), xy(1, 1)}, {xy(0, math.MinInt)}}
	for _, s := range []api.Seg{good, equal, far} {
		for _, o := range others {
			for _, p := range points {
				checkParts(t, s, o, p)
			}
		}
	}
	for _, b := range badSegments() {
		checkParts(t, b, nil, nil)
		checkParts(t, good, []api.Seg{good, b, equal, far}, nil)
		checkParts(t, equal, []api.Seg{b}, nil)
	}
	for _, p := range farPoints() {
		checkParts(t, good, nil, []api.Point{xy(0, 0), xy(7, 7), p})
		checkParts(t, good, []api.Seg{equal}, []api.Point{p})
	}
}

func TestBothWays(t *testing.T) { // P7.5
	source := rand.New(rand.NewPCG(7, 6))
	for range 5000 {
		s, r := somePair(source)
		want, e := cross.Meet(s, r)
		for _, a := range []api.Seg{s, reversed(s)} {
			for _, b := range []api.Seg{r, reversed(r)} {
				got, e2 := cross.Meet(a, b)
				expect(t, "Meet", cutText(got), e2, cutText(want), e)
				got, e2 = cross.Meet(b, a)
				expect(t, "Meet, exchanged", cutText(got), e2, cutText(want), e)
			}
		}
	}
}

func TestScaled(t *testing.T) { // P7.6
	source := rand.New(rand.NewPCG(7, 7))
	kinds := [3]int{}
	for range 10000 {
		small := smallSegments(4)
		s, r := small[source.IntN(len(small))], small[source.IntN(len(small))]
		k, x, y := 1+source.IntN(most/3), source.IntN(most+1)-most, source.IntN(most+1)-most
		if source.IntN(4) == 0 {
			k, x, y = most/3, -most, most/3
		}
		scaled := func(p api.Point) api.Point { return xy(p.X*k+x, p.Y*k+y) }
		scaledRats := func(p point.P) string {
			q := ratsOf(p)
			for i, shift := range []int{x, y} {
				q[i].Mul(q[i], big.NewRat(int64(k), 1)).Add(q[i], big.NewRat(int64(shift), 1))
			}
			return ratsText(q)
		}
		s2, r2 := api.Seg{A: scaled(s.A), B: scaled(s.B)}, api.Seg{A: scaled(r.A), B: scaled(r.B)}
		if segmentError(s2) != api.OK || segmentError(r2) != api.OK {
			continue
		}
		first, e := cross.Meet(s, r)
		got, e2 := cross.Meet(s2, r2)
		want := cutText(cross.Cut{Kind: first.Kind})
		switch first.Kind {
		case cross.Touch:
			want = "1: " + scaledRats(first.At) + ", 0 0"
		case cross.Along:
			want = "2: " + scaledRats(first.At) + ", " + scaledRats(first.To)
		}
		expect(t, "Meet, scaled", cutText(got), e2, want, e)
		kinds[got.Kind]++
	}
	if slices.Min(kinds[:]) < 100 {
		t.Errorf("only %v pairs of the kinds", kinds)
	}
}

func TestCommon(t *testing.T) { // P7.7
	source := rand.New(rand.NewPCG(7, 8))
	for range 3000 {
		s, r := somePair(source)
		cut, e := cross.Meet(s, r)
		if e != api.OK {
			t.Fatalf("error %d", e)
		}
		on := func(p point.P) bool {
			a, e := cross.On(s, p)
			b, e2 := cross.On(r, p)
			return a && b && e == api.OK && e2 == api.OK
		}
		if cut.Kind != cross.Apart && !on(cut.At) || cut.Kind == cross.Along && (!on(cut.To) || point.Compare(cut.At, cut.To) >= 0) {
			t.Errorf("%s is not on %s and %s", cutText(cut), segText(s), segText(r))
		}
		for _, pair := range [2][2]api.Seg{{s, r}, {r, s}} {
			parts, e := cross.Parts(pair[0], pair[1:], nil)
			if e != api.OK {
				t.Fatalf("error %d", e)
			}
			var both []point.P
			for _, p := range parts {
				if on(p) {
					both = append(both, p)
				}
			}
			want := [][]point.P{nil, {cut.At}, {cut.At, cut.To}}[cut.Kind]
			expect(t, "dividing points on both", pointsText(both), api.OK, pointsText(want), api.OK)
		}
	}
}

func TestNeighbours(t *testing.T) { // P7.8
	source := rand.New(rand.NewPCG(7, 9))
	for range 300 {
		s, others, points := someMap(source)
		parts, e := cross.Parts(s, others, points)
		if e != api.OK {
			t.Fatalf("error %d", e)
		}
		for i := 1; i < len(parts); i++ {
			if point.Compare(parts[i-1], parts[i]) >= 0 {
				t.Errorf("not in order: %s", pointsText(parts))
			}
			for _, r := range others {
				checkBetween(t, s, r, parts[i-1], parts[i])
			}
		}
		fewer, e := cross.Parts(s, others[source.IntN(len(others)):], points[source.IntN(len(points)):])
		if e != api.OK {
			t.Fatalf("error %d", e)
		}
		for _, p := range fewer {
			if !slices.ContainsFunc(parts, func(q point.P) bool { return point.Compare(p, q) == 0 }) {
				t.Errorf("%s is not among %s", pointsText([]point.P{p}), pointsText(parts))
			}
		}
	}
}

func TestExamples(t *testing.T) {
	for _, c := range []struct {
		s, t api.Seg
		want string
	}{
		{seg(0, 0, 2, 2), seg(0, 1, 1, 0), "1: 1/2 1/2, 0 0"},
		{seg(0, 0, 4, 0), seg(6, 0, 2, 0), "2: 2 0, 4 0"},
		{seg(0, 0, 2, 0), seg(2, 0, 4, 0), "1: 2 0, 0 0"},
		{seg(0, 0, 3, 1), seg(0, 1, 2, 0), "1: 6/5 2/5, 0 0"}, // of the whole document
	} {
		got, e := cross.Meet(c.s, c.t)
		expect(t, "Meet", cutText(got), e, c.want, api.OK)
	}
}

func TestArgumentsStayAsTheyAre(t *testing.T) { // R1, R3
	others := []api.Seg{seg(3, 1, 3, -1), seg(1, 0, 2, 0), seg(1, 1, 2, -1), seg(9, 9, 8, 8)}
	points := []api.Point{xy(2, 0), xy(1, 0), xy(7, 7), xy(5, 5)}
	keptOthers, keptPoints := slices.Clone(others), slices.Clone(points)
	first, _ := cross.Parts(seg(4, 0, 0, 0), others[:3], points[:2])
	want := pointsText(first)
	if !slices.Equal(others, keptOthers) || !slices.Equal(points, keptPoints) {
		t.Errorf("the arguments have changed to %v and %v", others, points)
	}
	for i := range first {
		first[i] = point.P{}
	}
	again, _ := cross.Parts(seg(4, 0, 0, 0), others[:3], points[:2])
	expect(t, "Parts, again", pointsText(again), api.OK, want, api.OK)
	p := at(t, "340282366920938463463374607431768211455/4", "-1/79228162514264337593543950335")
	for range 2 {
		cross.On(seg(0, 0, 4, 0), p)
		expect(t, "the point", p.X.String()+" "+p.Y.String(), api.OK, "340282366920938463463374607431768211455/4 -1/79228162514264337593543950335", api.OK)
	}
}

func FuzzAllArguments(f *testing.F) { // P1, P7.1 to P7.4
	f.Add([]byte{1}, []byte{2}, []byte{3}, []byte{2}, 0, 0, 1, 3, 5, 7, -1, 4)
	f.Add([]byte{255, 255, 255, 255, 255}, []byte{2}, []byte("some bytes"), []byte{3}, most, -most, most, most, -most, -most, most, -most+1)
	f.Add(make([]byte, 2048), []byte(nil), make([]byte, 1100), []byte{1}, most+1, -most, 2*most, -2*most, -2*most-1, 2, 0, 0)
	f.Add([]byte{1}, []byte{1, 0}, []byte{1}, []byte{255, 255}, math.MaxInt, 1, math.MinInt, 3, 0, 0, 0, math.MaxInt)
	f.Fuzz(func(t *testing.T, p, q, r, s []byte, x, y, x2, y2, x3, y3, x4, y4 int) {
		for _, near := range []int{math.MaxInt, 8} { // as they are, and near one another
			a, b, c, d := xy(x%near, y%near), xy(x2%near, y2%near), xy(x3%near, y3%near), xy(x4%near, y4%near)
			first, second := api.Seg{A: a, B: b}, api.Seg{A: c, B: d}
			checkMeet(t, first, second)
			checkParts(t, first, []api.Seg{second, {A: a, B: d}, {A: c, B: b}}, []api.Point{a, d})
			checkOn(t, first, gridRats(c))
			u := rats{ratOfBytes(p, q, x < 0), ratOfBytes(r, s, y < 0)}
			checkOn(t, first, u)
			checkOn(t, second, rats{u[1], u[0]})
			if v := along(gridRats(a), gridRats(b), u[0]); max(v[0].Num().BitLen(), v[1].Num().BitLen()) <= 16384 && max(v[0].Denom().BitLen(), v[1].Denom().BitLen()) <= 16384 {
				checkOn(t, first, v)
				checkOn(t, first, rats{v[0], u[1]})
			}
		}
		for _, k := range []api.Seg{seg(x, y, x2, y2), seg(x3, y3, x3, y3)} {
			expect(t, "Valid", 0, cross.Valid(k), 0, segmentError(k))
			normal, e := cross.Normal(k)
			if e != segmentError(k) || e != api.OK && normal != (api.Seg{}) || e == api.OK && normal != k && normal != reversed(k) {
				t.Errorf("Normal of %s: %s, error %d", segText(k), segText(normal), e)
			}
		}
	})
}

// rats is a point whose coordinates are numbers of math/big.
type rats [2]*big.Rat

// checkMeet checks Meet, and returns its result.
func checkMeet(t *testing.T, s, r api.Seg) cross.Cut {
	t.Helper()
	got, e := cross.Meet(s, r)
	name := "Meet of " + segText(s) + "and " + segText(r)
	if want := firstOf(segmentError(s), segmentError(r)); want != api.OK {
		expect(t, name, cutText(got), e, "0: 0 0, 0 0", want)
		return got
	}
	list := common(s, r)
	want := strconv.Itoa(len(list)) + ": "
	for _, p := range append(list, gridRats(xy(0, 0)), gridRats(xy(0, 0)))[:2] {
		want += ratsText(p) + ", "
	}
	expect(t, name, cutText(got), e, strings.TrimSuffix(want, ", "), api.OK)
	return got
}

// common returns the point that two segments have in common, or the ends of all these points in order, or nothing.
func common(s, t api.Seg) []rats {
	a, b := gridRats(s.A), gridRats(s.B)
	way, other, between := gridRats(away(s.A, s.B)), gridRats(away(t.A, t.B)), gridRats(away(s.A, t.A))
	if both := product(way, other); both.Sign() != 0 {
		// a + u way = c + v other
		u, v := new(big.Rat).Quo(product(between, other), both), new(big.Rat).Quo(product(between, way), both)
		if isPart(u) && isPart(v) {
			return []rats{along(a, b, u)}
		}
		return nil
	}
	if product(way, between).Sign() != 0 {
		return nil
	}
	i := 0
	if way[0].Sign() == 0 {
		i = 1
	}
	first, second := new(big.Rat).Quo(between[i], way[i]), new(big.Rat).Quo(new(big.Rat).Sub(gridRats(t.B)[i], a[i]), way[i])
	if first.Cmp(second) > 0 {
		first, second = second, first
	}
	if first.Sign() < 0 {
		first = new(big.Rat)
	}
	if one := big.NewRat(1, 1); second.Cmp(one) > 0 {
		second = one
	}
	switch first.Cmp(second) {
	case 0:
		return []rats{along(a, b, first)}
	case 1:
		return nil
	}
	list := []rats{along(a, b, first), along(a, b, second)}
	slices.SortFunc(list, compareRats)
	return list
}

// product returns the number that is positive, if b is to the left of a, and 0, if both have the same line.
func product(a, b rats) *big.Rat {
	left, right := new(big.Rat).Mul(a[0], b[1]), new(big.Rat).Mul(a[1], b[0])
	return left.Sub(left, right)
}

func isPart(u *big.Rat) bool {
	return u.Sign() >= 0 && u.Cmp(big.NewRat(1, 1)) <= 0
}

// checkOn checks On, and returns its result.
func checkOn(t *testing.T, s api.Seg, p rats) bool {
	t.Helper()
	got, e := cross.On(s, of(t, p))
	name := "On " + segText(s) + ratsText(p)
	if want := segmentError(s); want != api.OK {
		expect(t, name, got, e, false, want)
		return false
	}
	expect(t, name, got, e, onSegment(gridRats(s.A), gridRats(s.B), p), api.OK)
	return got
}

// onSegment reports whether p is a + u (b - a) for some u from 0 to 1.
func onSegment(a, b, p rats) bool {
	for i := range a {
		way := new(big.Rat).Sub(b[i], a[i])
		if way.Sign() != 0 {
			u := way.Quo(new(big.Rat).Sub(p[i], a[i]), way)
			return isPart(u) && compareRats(along(a, b, u), p) == 0
		}
	}
	return compareRats(a, p) == 0
}

// checkParts checks Parts, and returns its result.
func checkParts(t *testing.T, s api.Seg, others []api.Seg, points []api.Point) []point.P {
	t.Helper()
	got, e := cross.Parts(s, others, points)
	want := segmentError(s)
	for _, r := range others {
		want = firstOf(want, segmentError(r))
	}
	for _, p := range points {
		if !isValid(p) {
			want = firstOf(want, api.ErrRange)
		}
	}
	if want != api.OK {
		expect(t, "Parts of "+segText(s), pointsText(got), e, "", want)
		return nil
	}
	list := []rats{gridRats(s.A), gridRats(s.B)}
	for _, r := range others {
		list = append(list, common(s, r)...)
	}
	for _, p := range points {
		if onSegment(gridRats(s.A), gridRats(s.B), gridRats(p)) {
			list = append(list, gridRats(p))
		}
	}
	slices.SortFunc(list, compareRats)
	list = slices.CompactFunc(list, func(a, b rats) bool { return compareRats(a, b) == 0 })
	var texts []string
	for _, p := range list {
		texts = append(texts, ratsText(p))
	}
	expect(t, "Parts of "+segText(s), pointsText(got), e, strings.Join(texts, ", "), api.OK)
	return got
}

// checkBetween checks that r has no point strictly between two points of s, unless both lie on it.
func checkBetween(t *testing.T, s, r api.Seg, from, to point.P) {
	t.Helper()
	a, e := cross.On(r, from)
	b, e2 := cross.On(r, to)
	cut, e3 := cross.Meet(s, r)
	if e != api.OK || e2 != api.OK || e3 != api.OK {
		t.Fatalf("errors %d, %d, %d", e, e2, e3)
	}
	first, last := cut.At, cut.To
	if cut.Kind == cross.Touch {
		last = first
	}
	if cut.Kind != cross.Apart && !(a && b) && point.Compare(first, to) < 0 && point.Compare(from, last) < 0 {
		t.Errorf("%s lies between %s", segText(r), pointsText([]point.P{from, to}))
	}
}

func segmentError(s api.Seg) api.Errno {
	switch {
	case !isValid(s.A) || !isValid(s.B):
		return api.ErrRange
	case s.A.X == s.B.X && s.A.Y == s.B.Y:
		return api.ErrArg
	default:
		return api.OK
	}
}

func firstOf(a, b api.Errno) api.Errno {
	if a != api.OK {
		return a
	}
	return b
}

func isValid(p api.Point) bool {
	return -most <= p.X && p.X <= most && -most <= p.Y && p.Y <= most
}

// badSegments returns segments that are not valid.
func badSegments() []api.Seg {
	list := []api.Seg{{}, seg(3, -4, 3, -4), seg(most, most, most, most)}
	for _, p := range farPoints() {
		list = append(list, api.Seg{A: p}, api.Seg{B: p}, api.Seg{A: p, B: p}, api.Seg{A: xy(1, 2), B: p}, api.Seg{A: p, B: xy(most, -most)})
	}
	return list
}

// farPoints returns points with a coordinate that is out of range.
func farPoints() []api.Point {
	var list []api.Point
	for _, far := range []int{most + 1, -most - 1, 1 << 32, math.MaxInt, math.MinInt} {
		list = append(list, xy(far, 0), xy(0, far), xy(far, far), xy(far, most), xy(-most, far))
	}
	return list
}

// smallSegments returns the segments between points from (0, 0) to (n - 1, n - 1).
func smallSegments(n int) []api.Seg {
	var list []api.Seg
	for i := range n * n {
		for k := range n * n {
			if i != k {
				list = append(list, seg(i/n, i%n, k/n, k%n))
			}
		}
	}
	return list
}

// someMap returns a segment that is divided by others, often ones along it, and by points; there is at least one of each.
func someMap(source *rand.Rand) (s api.Seg, others []api.Seg, points []api.Point) {
	s = someSegment(source)
	small := source.IntN(2) == 0
	if small {
		s = someSmall(source)
	}
	for range 1 + source.IntN(8) {
		r := beginningOn(source, s)
		if small {
			r = someSmall(source)
		}
		others = append(others, r)
		points = append(points, r.A, pointOn(source, s))
	}
	return s, others, points
}

// somePair returns two segments that often meet.
func somePair(source *rand.Rand) (s, t api.Seg) {
	s, t = someSegment(source), someSegment(source)
	switch source.IntN(4) {
	case 0:
		return s, beginningOn(source, s)
	case 1:
		return someSmall(source), someSmall(source)
	}
	return s, t
}

// beginningOn returns a segment that begins on s or near it, and often runs along it.
func beginningOn(source *rand.Rand, s api.Seg) api.Seg {
	r := api.Seg{A: pointOn(source, s), B: someSegment(source).B}
	if source.IntN(2) == 0 {
		r.B = pointOn(source, s)
	}
	if source.IntN(4) == 0 {
		r.A = xy(r.A.X+source.IntN(3)-1, r.A.Y+source.IntN(3)-1)
	}
	if source.IntN(2) == 0 {
		r = reversed(r)
	}
	if segmentError(r) != api.OK {
		return s
	}
	return r
}

// pointOn returns a valid point of the grid that lies on the line of a segment.
func pointOn(source *rand.Rand, s api.Seg) api.Point {
	way := away(s.A, s.B)
	step := int(new(big.Int).GCD(nil, nil, big.NewInt(int64(max(way.X, -way.X))), big.NewInt(int64(max(way.Y, -way.Y)))).Int64())
	k := source.IntN(2*step+1) - step/2
	if p := xy(s.A.X+way.X/step*k, s.A.Y+way.Y/step*k); isValid(p) {
		return p
	}
	return s.A
}

func someSmall(source *rand.Rand) api.Seg {
	for {
		s := seg(source.IntN(7)-3, source.IntN(7)-3, source.IntN(7)-3, source.IntN(7)-3)
		if segmentError(s) == api.OK {
			return s
		}
	}
}

// someSegment returns a valid segment, often with coordinates at the limits, or with a slope of small numbers.
func someSegment(source *rand.Rand) api.Seg {
	for {
		s := api.Seg{A: someGrid(source), B: someGrid(source)}
		if source.IntN(3) == 0 {
			k := 1 + source.IntN(most/5)
			s.B = xy(s.A.X+(source.IntN(9)-4)*k, s.A.Y+(source.IntN(9)-4)*k)
		}
		if segmentError(s) == api.OK {
			return s
		}
	}
}

// someGrid returns a valid point of the grid, often at the limits, or near (0, 0).
func someGrid(source *rand.Rand) api.Point {
	var l [2]int
	for i := range l {
		switch source.IntN(5) {
		case 0:
			l[i] = []int{-most, 1 - most, most - 1, most}[source.IntN(4)]
		case 1, 2:
			l[i] = source.IntN(7) - 3
		default:
			l[i] = source.IntN(2*most+1) - most
		}
	}
	return xy(l[0], l[1])
}

// longPoint returns a point of a segment whose fractions are as long as possible.
func longPoint(source *rand.Rand, s api.Seg) rats {
	for bits := 16384; ; bits-- {
		den := someInteger(source, 512)
		den.SetBit(den.Abs(den).SetBit(den, 16383, 1), 0, 1).Rsh(den, uint(16384-bits))
		num := someInteger(source, 512)
		num.Lsh(num.Abs(num), uint(16384-num.BitLen()))
		p := along(gridRats(s.A), gridRats(s.B), new(big.Rat).SetFrac(num.Rem(num, den), den))
		if max(p[0].Num().BitLen(), p[1].Num().BitLen(), p[0].Denom().BitLen(), p[1].Denom().BitLen()) <= 16384 {
			return p
		}
	}
}

// quotientBelow returns num / den, or the next lesser fraction with this odd denominator in lowest terms.
func quotientBelow(num, den *big.Int) *big.Rat {
	for num.SetBit(num, 0, 1); new(big.Int).GCD(nil, nil, new(big.Int).Abs(num), den).Cmp(big.NewInt(1)) != 0; {
		num.Sub(num, big.NewInt(2))
	}
	return new(big.Rat).SetFrac(num, den)
}

// besideRat returns the number that follows x in steps of its denominator, or the one before.
func besideRat(x *big.Rat) *big.Rat {
	step := big.NewInt(int64(x.Sign()))
	return new(big.Rat).SetFrac(step.Sub(x.Num(), step), x.Denom())
}

// nearPoint returns a point that differs hardly from another one, in one coordinate.
func nearPoint(source *rand.Rand, p rats) rats {
	i := source.IntN(2)
	p[i] = new(big.Rat).Add(p[i], new(big.Rat).SetFrac(big.NewInt(source.Int64N(3)-1), new(big.Int).Lsh(big.NewInt(1), 100)))
	return p
}

// someInteger returns an integer with at most so many words, which are often all zeros or all ones.
func someInteger(source *rand.Rand, words int) *big.Int {
	x := new(big.Int)
	for range source.IntN(words) + 1 {
		word := source.Uint32()
		switch source.IntN(6) {
		case 0:
			word = 0
		case 1:
			word = math.MaxUint32
		case 2:
			word >>= source.IntN(32)
		}
		x.Lsh(x, 32).Or(x, big.NewInt(int64(word)))
	}
	if source.IntN(2) == 0 {
		x.Neg(x)
	}
	return x
}

// ratOfBytes returns a fraction in range; the denominator is 1 if there would be none.
func ratOfBytes(p, q []byte, minus bool) *big.Rat {
	num, den := new(big.Int).SetBytes(p[:min(len(p), 2048)]), new(big.Int).SetBytes(q[:min(len(q), 2048)])
	if den.Sign() == 0 {
		den = big.NewInt(1)
	}
	if minus {
		num.Neg(num)
	}
	return new(big.Rat).SetFrac(num, den)
}

// expect reports a result or an error that is not the expected one.
func expect[T comparable](t *testing.T, name string, got T, e api.Errno, want T, errno api.Errno) {
	t.Helper()
	if got != want || e != errno {
		t.Fatalf("%.120s: %v, error %d, want %v, error %d", name, got, e, want, errno)
	}
}

func at(t *testing.T, x, y string) point.P {
	t.Helper()
	a, e := frac.Parse(x)
	b, e2 := frac.Parse(y)
	if e != api.OK || e2 != api.OK {
		t.Fatalf("frac.Parse(%.60s): %d, frac.Parse(%.60s): %d", x, e, y, e2)
	}
	return point.P{X: a, Y: b}
}

func of(t *testing.T, p rats) point.P {
	t.Helper()
	return at(t, p[0].RatString(), p[1].RatString())
}

func ratsOf(p point.P) rats {
	x, _ := new(big.Rat).SetString(p.X.String())
	y, _ := new(big.Rat).SetString(p.Y.String())
	return rats{x, y}
}

func gridRats(p api.Point) rats {
	return rats{big.NewRat(int64(p.X), 1), big.NewRat(int64(p.Y), 1)}
}

func compareRats(a, b rats) int {
	if order := a[0].Cmp(b[0]); order != 0 {
		return order
	}
	return a[1].Cmp(b[1])
}

// along returns a + u (b - a).
func along(a, b rats, u *big.Rat) rats {
	var p rats
	for i := range p {
		way := new(big.Rat).Sub(b[i], a[i])
		p[i] = way.Add(way.Mul(way, u), a[i])
	}
	return p
}

func ratsText(p rats) string {
	return p[0].RatString() + " " + p[1].RatString()
}

func pointsText(list []point.P) string {
	var texts []string
	for _, p := range list {
		texts = append(texts, p.X.String()+" "+p.Y.String())
	}
	return strings.Join(texts, ", ")
}

func cutText(c cross.Cut) string {
	return strconv.Itoa(c.Kind) + ": " + pointsText([]point.P{c.At, c.To})
}

func segText(s api.Seg) string {
	text := ""
	for _, n := range []int{s.A.X, s.A.Y, s.B.X, s.B.Y} {
		text += strconv.Itoa(n) + " "
	}
	return text
}

func xy(x, y int) api.Point {
	return api.Point{X: x, Y: y}
}

func seg(x, y, x2, y2 int) api.Seg {
	return api.Seg{A: xy(x, y), B: xy(x2, y2)}
}

func reversed(s api.Seg) api.Seg {
	return api.Seg{A: s.B, B: s.A}
}

func away(a, b api.Point) api.Point {
	return xy(b.X-a.X, b.Y-a.Y)
}
