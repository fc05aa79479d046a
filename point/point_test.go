package point_test

import (
	"bytes"
	"math"
	"math/big"
	"math/rand/v2"
	"slices"
	"strconv"
	"strings"
	"testing"

	"meresman/api"
	"meresman/frac"
	"meresman/point"
)

// Expected results are computed by math/big, or stand in the text of the chapter.

const most = api.MaxCoord

func TestValid(t *testing.T) { // P5.1
	for _, x := range ints() {
		for _, y := range ints() {
			want := api.ErrRange
			if isValid(x, y) {
				want = api.OK
			}
			if got := point.Valid(api.Point{X: x, Y: y}); got != want {
				t.Errorf("Valid(%d, %d) = %d, want %d", x, y, got, want)
			}
		}
	}
}

func TestLimitsOfValidPoints(t *testing.T) { // P5.1
	for _, c := range []struct {
		x, y int
		want api.Errno
	}{
		{0, 0, api.OK},
		{1073741824, -1073741824, api.OK},
		{-1073741824, 1073741824, api.OK},
		{1073741825, 0, api.ErrRange},
		{0, 1073741825, api.ErrRange},
		{-1073741825, 0, api.ErrRange},
		{0, -1073741825, api.ErrRange},
		{1 << 32, 0, api.ErrRange},
		{0, -1 << 32, api.ErrRange},
		{math.MinInt, math.MaxInt, api.ErrRange},
	} {
		if got := point.Valid(api.Point{X: c.x, Y: c.y}); got != c.want {
			t.Errorf("Valid(%d, %d) = %d, want %d", c.x, c.y, got, c.want)
		}
	}
}

func TestValidBox(t *testing.T) { // P5.1
	for _, c := range []struct {
		x, y, x2, y2 int
		want         api.Errno
	}{
		{0, 0, 0, 0, api.OK},
		{1, 2, 3, 4, api.OK},
		{1, 2, 1, 4, api.OK},
		{1, 2, 3, 2, api.OK},
		{-most, -most, most, most, api.OK},
		{most, most, most, most, api.OK},
		{-most, -most, -most, -most, api.OK},
		{3, 2, 1, 4, api.ErrRange},
		{1, 4, 3, 2, api.ErrRange},
		{3, 4, 1, 2, api.ErrRange},
		{1, 1, 0, 1, api.ErrRange},
		{1, 1, 1, 0, api.ErrRange},
		{-most - 1, 0, 0, 0, api.ErrRange},
		{0, -most - 1, 0, 0, api.ErrRange},
		{0, 0, most + 1, 0, api.ErrRange},
		{0, 0, 0, most + 1, api.ErrRange},
		{most + 1, 0, most + 1, 0, api.ErrRange},
		{0, -most - 1, 0, -most - 1, api.ErrRange},
		{math.MinInt, math.MinInt, math.MaxInt, math.MaxInt, api.ErrRange},
	} {
		if got := point.ValidBox(boxOf(c.x, c.y, c.x2, c.y2)); got != c.want {
			t.Errorf("ValidBox of (%d, %d) and (%d, %d) = %d, want %d", c.x, c.y, c.x2, c.y2, got, c.want)
		}
	}
	for _, b := range someBoxes(rand.New(rand.NewPCG(5, 1)), 3000) {
		want := api.ErrRange
		if isValid(b.Min.X, b.Min.Y) && isValid(b.Max.X, b.Max.Y) && b.Min.X <= b.Max.X && b.Min.Y <= b.Max.Y {
			want = api.OK
		}
		if got := point.ValidBox(b); got != want {
			t.Errorf("ValidBox(%v) = %d, want %d", b, got, want)
		}
	}
}

func TestOf(t *testing.T) { // P5.2: points that are not valid, too
	for _, x := range ints() {
		for _, y := range ints() {
			p := point.Of(api.Point{X: x, Y: y})
			expect(t, "Of", p, api.OK, strconv.Itoa(x), strconv.Itoa(y), api.OK)
			want, valid := api.Point{}, isValid(x, y)
			if valid {
				want = api.Point{X: x, Y: y}
			}
			if q, ok := point.Whole(p); q != want || ok != valid {
				t.Errorf("Whole(%d, %d) = %v, %v", x, y, q, ok)
			}
		}
	}
}

func TestWhole(t *testing.T) { // P5.2
	for _, c := range []struct {
		x, y string
		want api.Point
		ok   bool
	}{
		{"0", "0", api.Point{}, true},
		{"3", "-4", api.Point{X: 3, Y: -4}, true},
		{"-3", "4", api.Point{X: -3, Y: 4}, true},
		{"1073741824", "-1073741824", api.Point{X: most, Y: -most}, true},
		{"1/2", "0", api.Point{}, false},
		{"0", "1/2", api.Point{}, false},
		{"3", "-4/3", api.Point{}, false},
		{"-3/2", "4", api.Point{}, false},
		{"1/2", "1/2", api.Point{}, false},
		{"4", "1/4294967297", api.Point{}, false},
		{"4", "1/18446744073709551617", api.Point{}, false},
		{"1/18446744073709551617", "4", api.Point{}, false},
		{"1073741825", "0", api.Point{}, false},
		{"0", "-1073741825", api.Point{}, false},
		{"2147483647/2", "0", api.Point{}, false},
		{"4294967301", "1", api.Point{}, false},
		{"1", "18446744073709551621", api.Point{}, false}, // 2^64 + 5
		{"-18446744073709551621", "1", api.Point{}, false},
		{"9223372036854775807", "-9223372036854775808", api.Point{}, false},
		{greatest().String(), "0", api.Point{}, false},
		{"0", "1/" + greatest().String(), api.Point{}, false},
	} {
		if got, ok := point.Whole(at(t, c.x, c.y)); got != c.want || ok != c.ok {
			t.Errorf("Whole(%.40s, %.40s) = %v, %v, want %v, %v", c.x, c.y, got, ok, c.want, c.ok)
		}
	}
	if got, ok := point.Whole(point.P{}); got != (api.Point{}) || !ok {
		t.Errorf("Whole of the zero point = %v, %v", got, ok)
	}
}

func TestCompare(t *testing.T) { // P5.3
	for _, c := range []struct {
		x, y, x2, y2 string
		want         int
	}{
		{"1", "5", "2", "0", -1},
		{"2", "0", "1", "5", 1},
		{"1", "5", "1", "6", -1},
		{"1", "6", "1", "5", 1},
		{"1", "5", "1", "5", 0},
		{"0", "0", "0", "0", 0},
		{"1/3", "9", "1/2", "0", -1},
		{"-1/3", "0", "-1/2", "9", 1},
		{"1/2", "-1/2", "1/2", "-1/3", -1},
		{"1/2", "-1/2", "1/2", "-1/2", 0},
		{"0", "1/18446744073709551617", "0", "1/18446744073709551616", -1},
		{greatest().String(), "0", greatest().String() + "/2", "1", 1},
		{"0", "-" + greatest().String(), "0", greatest().String(), -1},
	} {
		if got := point.Compare(at(t, c.x, c.y), at(t, c.x2, c.y2)); got != c.want {
			t.Errorf("Compare of (%.40s, %.40s) and (%.40s, %.40s) = %d, want %d", c.x, c.y, c.x2, c.y2, got, c.want)
		}
	}
}

func TestMid(t *testing.T) { // P5.4
	for _, c := range []struct{ x, y, x2, y2, wantX, wantY string }{
		{"0", "0", "1", "3", "1/2", "3/2"},
		{"0", "0", "0", "0", "0", "0"},
		{"2", "4", "6", "8", "4", "6"},
		{"-1", "5", "2", "-5", "1/2", "0"},
		{"1/3", "1/2", "1/6", "1/2", "1/4", "1/2"},
		{"7/5", "-7/5", "7/5", "-7/5", "7/5", "-7/5"},
		{"1073741824", "-1073741824", "1073741823", "-1073741824", "2147483647/2", "-1073741824"},
		{"9223372036854775807", "-9223372036854775808", "9223372036854775807", "-9223372036854775808", "9223372036854775807", "-9223372036854775808"},
	} {
		mid, e := point.Mid(at(t, c.x, c.y), at(t, c.x2, c.y2))
		expect(t, "Mid", mid, e, c.wantX, c.wantY, api.OK)
	}
	source := rand.New(rand.NewPCG(5, 4))
	for range 3000 {
		a, b := someRats(source, 6), someRats(source, 6)
		checkMid(t, a, b)
	}
	for range 100 { // whose sums are just in range or out of it
		a, b := someRats(source, 256), someRats(source, 256)
		checkMid(t, a, b)
	}
}

func TestLimitsOfMid(t *testing.T) { // P5.4: each of the four errors
	top := greatest()
	great, half := top.String(), power(2, 16383).String()
	for _, c := range []struct {
		name, a, b, want string // of one coordinate; no text for ErrLimit
	}{
		{"the sum is out of range, though its half is not", great, great, ""},
		{"the sum is just out of range", half, half, ""},
		{"the sum is in range", great, "-1", new(big.Int).Rsh(top, 1).String()},
		{"the opposite sum is out of range", "-" + great, "-1", ""},
		{"the half of the sum is out of range", "1/" + half, "0", ""},
		{"the half of the sum is just in range", "1/" + half, "1/" + half, "1/" + half},
		{"the least fraction, which is not even", "1/" + great, "0", ""},
		{"the denominators have no common divisor", "1/" + great, "1/2", ""},
		{"opposite fractions", "1/" + great, "-1/" + great, "0"},
	} {
		wantX, wantY, e := c.want, "7/2", api.OK
		if c.want == "" {
			wantX, wantY, e = "0", "0", api.ErrLimit
		}
		mid, got := point.Mid(at(t, c.a, "3"), at(t, c.b, "4"))
		expect(t, c.name+", of X", mid, got, wantX, wantY, e)
		mid, got = point.Mid(at(t, "3", c.a), at(t, "4", c.b))
		expect(t, c.name+", of Y", mid, got, wantY, wantX, e)
		mid, got = point.Mid(at(t, c.b, c.a), at(t, c.a, c.b))
		expect(t, c.name+", of both", mid, got, wantX, wantX, e)
	}
}

func TestIn(t *testing.T) { // P5.5
	box := boxOf(-1, 2, 3, 4)
	for _, c := range []struct {
		x, y string
		want bool
	}{
		{"0", "3", true},
		{"1/2", "7/2", true},
		{"-1", "2", true},
		{"3", "4", true},
		{"-1", "4", true},
		{"3", "2", true},
		{"-1", "3", true},
		{"0", "2", true},
		{"-2", "3", false},
		{"4", "3", false},
		{"0", "1", false},
		{"0", "5", false},
		{"-4294967297/4294967296", "3", false},
		{"-4294967295/4294967296", "3", true},
		{"55340232221128654849/18446744073709551616", "3", false},
		{"55340232221128654847/18446744073709551616", "3", true},
		{"0", "36893488147419103231/18446744073709551616", false},
		{"0", "36893488147419103233/18446744073709551616", true},
		{"0", "17179869185/4294967296", false},
		{"0", "17179869183/4294967296", true},
		{"3", "-1", false},
		{greatest().String(), "3", false},
		{"0", "1/" + greatest().String(), false},
		{"1/" + greatest().String(), "2", true},
	} {
		if got := point.In(box, at(t, c.x, c.y)); got != c.want {
			t.Errorf("In(%v, (%.50s, %.50s)) = %v", box, c.x, c.y, got)
		}
	}
}

func TestInBoxes(t *testing.T) { // P5.5: of all kinds
	for _, c := range []struct {
		box  api.Box
		x, y string
		want bool
	}{
		{boxOf(0, 0, 0, 0), "0", "0", true},
		{boxOf(0, 0, 0, 0), "0", "1/2", false},
		{boxOf(3, 3, 1, 5), "2", "4", false}, // no point lies in a box whose corners are exchanged
		{boxOf(3, 3, 1, 5), "3", "4", false},
		{boxOf(3, 3, 5, 1), "4", "2", false},
		{boxOf(3, 3, 5, 1), "4", "3", false},
		{boxOf(math.MinInt, math.MinInt, math.MaxInt, math.MaxInt), "9223372036854775807", "-9223372036854775808", true},
		{boxOf(math.MinInt, math.MinInt, math.MaxInt, math.MaxInt), "9223372036854775808", "0", false},
		{boxOf(math.MinInt, math.MinInt, math.MaxInt, math.MaxInt), "0", "-9223372036854775809", false},
		{boxOf(math.MinInt, math.MinInt, math.MaxInt, math.MaxInt), "0", "18446744073709551615/2", false},
		{boxOf(math.MaxInt, math.MinInt, math.MaxInt, math.MinInt), "9223372036854775807", "-9223372036854775808", true},
	} {
		if got := point.In(c.box, at(t, c.x, c.y)); got != c.want {
			t.Errorf("In(%v, (%s, %s)) = %v", c.box, c.x, c.y, got)
		}
	}
	source := rand.New(rand.NewPCG(5, 5))
	for _, b := range someBoxes(source, 5000) {
		p := rats{nearRat(source, b), nearRat(source, b)}
		checkIn(t, b, p)
	}
}

func TestMeets(t *testing.T) { // P5.5
	for _, c := range []struct {
		a, b api.Box
		want bool
	}{
		{boxOf(0, 0, 2, 2), boxOf(1, 1, 3, 3), true},
		{boxOf(0, 0, 2, 2), boxOf(2, 2, 3, 3), true},
		{boxOf(0, 0, 2, 2), boxOf(2, -5, 3, 0), true},
		{boxOf(0, 0, 2, 2), boxOf(3, 0, 5, 2), false},
		{boxOf(0, 0, 2, 2), boxOf(0, 3, 2, 5), false},
		{boxOf(0, 0, 9, 9), boxOf(3, 3, 4, 4), true},
		{boxOf(0, 3, 9, 4), boxOf(3, 0, 4, 9), true},
		{boxOf(1, 1, 1, 1), boxOf(1, 1, 1, 1), true},
		{boxOf(-2, -2, -1, -1), boxOf(1, 1, 2, 2), false},
		// Corners that are exchanged, though they lie within the other box, or both boxes have the same ones.
		{boxOf(4, 1, 3, 2), boxOf(0, 0, 9, 9), false},
		{boxOf(1, 4, 2, 3), boxOf(0, 0, 9, 9), false},
		{boxOf(4, 1, 3, 2), boxOf(4, 1, 3, 2), false},
		{boxOf(9, 0, 0, 9), boxOf(4, 4, 5, 5), false},
		// Corners that are out of range.
		{boxOf(math.MinInt, math.MinInt, math.MaxInt, math.MaxInt), boxOf(0, 0, 0, 0), true},
		{boxOf(math.MinInt, math.MinInt, math.MinInt, math.MinInt), boxOf(math.MaxInt, math.MaxInt, math.MaxInt, math.MaxInt), false},
		{boxOf(most+1, 0, most+3, 0), boxOf(most+2, 0, most+5, 0), true},
		{boxOf(most+1, 0, most+3, 0), boxOf(most+4, 0, most+5, 0), false},
	} {
		if there, back := point.Meets(c.a, c.b), point.Meets(c.b, c.a); there != c.want || back != c.want {
			t.Errorf("Meets(%v, %v) = %v, exchanged %v", c.a, c.b, there, back)
		}
	}
	source := rand.New(rand.NewPCG(5, 6))
	for range 10000 {
		checkMeets(t, nearBox(source), nearBox(source))
	}
	boxes := someBoxes(source, 200)
	for _, a := range boxes {
		for _, b := range boxes {
			checkMeets(t, a, b)
		}
	}
}

func TestMeetsHaveCommonPoints(t *testing.T) { // P5.5: valid boxes meet if a point of the grid lies in both
	source := rand.New(rand.NewPCG(5, 7))
	for range 1000 {
		a, b := nearBox(source), nearBox(source)
		if point.ValidBox(a) != api.OK || point.ValidBox(b) != api.OK {
			continue
		}
		common := false
		for x := -4; x <= 4; x++ {
			for y := -4; y <= 4; y++ {
				p := point.Of(api.Point{X: x, Y: y})
				common = common || point.In(a, p) && point.In(b, p)
			}
		}
		if got := point.Meets(a, b); got != common {
			t.Errorf("Meets(%v, %v) = %v", a, b, got)
		}
	}
}

func TestRound(t *testing.T) { // P5.6
	for _, c := range []struct {
		x    string
		want int
	}{
		{"0", 0},
		{"5", 5},
		{"-5", -5},
		{"1/2", 0},
		{"3/2", 1},
		{"5/2", 2},
		{"-1/2", -1},
		{"-3/2", -2},
		{"1/3", 0},
		{"2/3", 1},
		{"-1/3", 0},
		{"-2/3", -1},
		{"7/5", 1},
		{"8/5", 2},
		{"-7/5", -1},
		{"-8/5", -2},
		{"4294967295/8589934592", 0},
		{"4294967297/8589934592", 1},
		{"-4294967295/8589934592", 0},
		{"-4294967297/8589934592", -1},
		{"18446744073709551617/36893488147419103232", 1},
		{"1/" + greatest().String(), 0},
		{"-1/" + greatest().String(), 0},
		{greatest().String() + "/" + power(2, 16383).String(), 2},
		{"1073741824", most},
		{"-1073741824", -most},
		{"2147483647/2", most - 1},
		{"-2147483647/2", -most},
		{"4294967295/4", most},
		{"-4294967295/4", -most},
		{"2147483649/2", most},
		{"-4294967297/4", -most},
		{"-17179869185/16", -most},
		{"3221225473/3", most}, // 1/3 more
		{"-3221225473/3", -most},
	} {
		checkRound(t, c.x, c.want, api.OK)
	}
	for _, x := range []string{
		"1073741825", "-1073741825", "-2147483649/2", "4294967299/4", "-4294967299/4", "3221225474/3", "-3221225474/3",
		"2147483651/2", "-2147483651/2", "4294967296", "-4294967296", "4294967297", "18446744073709551616", "-18446744073709551616",
		"18446744073709551621", "9223372036854775807", "-9223372036854775808", "18446744073709551615/2", "-18446744073709551617/2",
		greatest().String(), "-" + greatest().String(), greatest().String() + "/2", "-" + greatest().String() + "/7",
	} {
		checkRound(t, x, 0, api.ErrRange)
	}
}

func TestRoundOfManySizes(t *testing.T) { // P5.6
	source := rand.New(rand.NewPCG(5, 8))
	for range 3000 {
		near := source.Int64N(2*most+40) - most - 20
		if source.IntN(3) == 0 {
			near = source.Int64N(20) - 10
		}
		den := new(big.Int).Abs(someInteger(source, 3))
		den.Add(den, big.NewInt(1))
		num := new(big.Int).Mod(someInteger(source, 4), den)
		if source.IntN(3) == 0 {
			num, den = big.NewInt(source.Int64N(5)), big.NewInt(4)
		}
		x := new(big.Rat).SetFrac(num, den)
		x.Add(x, new(big.Rat).SetInt64(near))
		want, e := roundOf(x)
		checkRound(t, x.RatString(), want, e)
	}
	for range 300 {
		x := someRat(source, 60)
		want, e := roundOf(x)
		checkRound(t, x.RatString(), want, e)
	}
}

func TestEncode(t *testing.T) { // P5.7
	for _, c := range []struct {
		x, y string
		want []byte
	}{
		{"0", "0", []byte{1, '0', 1, '0'}},
		{"1/2", "-3", []byte{3, '1', '/', '2', 2, '-', '3'}},
		{"-12", "0", []byte{3, '-', '1', '2', 1, '0'}},
		{"0", "-7/10", []byte{1, '0', 5, '-', '7', '/', '1', '0'}},
	} {
		if got := point.Encode(at(t, c.x, c.y)); !bytes.Equal(got, c.want) {
			t.Errorf("(%s, %s) is encoded as %q, want %q", c.x, c.y, got, c.want)
		}
	}
	if got := point.Encode(point.P{}); !bytes.Equal(got, []byte{1, '0', 1, '0'}) {
		t.Errorf("the zero point is encoded as %q", got)
	}
	long := strings.Repeat("7", 300)
	if got := point.Encode(at(t, long, "-"+long)); !bytes.Equal(got, []byte("\xac\x02"+long+"\xad\x02-"+long)) {
		t.Errorf("long texts are encoded as %q", got)
	}
}

func TestDecode(t *testing.T) { // P5.7
	source := rand.New(rand.NewPCG(5, 9))
	for range 3000 {
		p := someRats(source, 8)
		b := point.Encode(of(t, p))
		back, e := point.Decode(b)
		expect(t, "Decode", back, e, p[0].RatString(), p[1].RatString(), api.OK)
		for n := range b {
			back, e := point.Decode(b[:n])
			expect(t, "Decode of a part", back, e, "0", "0", api.ErrForm)
		}
		back, e = point.Decode(append(b, 0))
		expect(t, "Decode of more bytes", back, e, "0", "0", api.ErrForm)
	}
	long := greatest().String() + "/" + new(big.Int).Sub(greatest(), big.NewInt(1)).String()
	back, e := point.Decode(raws("-"+long, long))
	expect(t, "Decode of the longest texts", back, e, "-"+long, long, api.OK)
}

func TestMalformedEncodings(t *testing.T) { // P5.7
	out := power(2, 16384).String()
	for _, text := range []string{
		"", "-", "-0", "01", "+1", " 1", "1 ", "2/4", "3/1", "0/1", "1/0", "1/-2", "/2", "1/", "1/2/3", "1.5", "x", "\x00", "\xff",
		out, "1/" + out, strings.Repeat("9", 5001), strings.Repeat("9", 100000),
	} {
		for _, b := range [][]byte{raws(text, "1"), raws("1", text), raws(text, text), raws("1/2", text), raws(text, "-3/4")} {
			p, e := point.Decode(b)
			expect(t, "Decode of "+strconv.Quote(text[:min(len(text), 40)]), p, e, "0", "0", api.ErrForm)
		}
	}
	for _, b := range [][]byte{
		nil, {}, {0}, {1}, {1, '1'}, {1, '1', 1}, {1, '1', 2, '1'}, {0, 0}, {1, '1', 0}, {0, 1, '1'}, {1, '1', 1, '1', 0}, {1, '1', 1, '1', 1, '1'},
		{1, '1', 2, '1', '1', '1'}, {129, 0, '1', 1, '1'}, {1, '1', 129, 0, '1'}, {128}, {255, 255, 255, 255, 255, 255, 255, 255, 255, 1},
		{255, 255, 255, 255, 255, 255, 255, 255, 255, 2}, {1, '1', 255, 255, 255, 255, 255, 255, 255, 255, 255, 1}, {3, '1', 1, '1'}, []byte("11"), []byte("1/2,3"),
	} {
		p, e := point.Decode(b)
		expect(t, "Decode of "+strconv.Quote(string(b)), p, e, "0", "0", api.ErrForm)
	}
}

func TestShortEncodings(t *testing.T) { // P5.7: among all short bytes, as far as they matter
	alphabet := []byte{0, 1, 2, 3, '0', '2', '-', '/'}
	found := map[string]bool{}
	for size := range 7 {
		b := make([]byte, size)
		for number := range 1 << (3 * size) {
			for i := range b {
				b[i] = alphabet[number>>(3*i)%8]
			}
			checkDecode(t, b)
			if p, e := point.Decode(b); e == api.OK {
				if found[textOf(p)] {
					t.Errorf("%s has several encodings, %q is one", textOf(p), b)
				}
				found[textOf(p)] = true
			}
		}
	}
	// There are 2 texts with one byte, 3 with two (20, 22, -2), 6 with three, and 4 bytes for both texts.
	if want := 2*2 + 2*(2*3) + 3*3 + 2*(2*6); len(found) != want {
		t.Errorf("%d points, want %d: %v", len(found), want, found)
	}
}

func TestOrder(t *testing.T) { // P5.8
	var list []point.P
	for _, x := range orderTexts() {
		for _, y := range orderTexts() {
			list = append(list, at(t, x, y))
		}
	}
	// The texts are in order, and so are the points.
	for i, a := range list {
		for j, b := range list {
			want := 0
			if i < j {
				want = -1
			} else if i > j {
				want = 1
			}
			if got := point.Compare(a, b); got != want {
				t.Errorf("Compare of %.90s and %.90s = %d, want %d", textOf(a), textOf(b), got, want)
			}
		}
	}
}

func TestOrderIsTotal(t *testing.T) { // P5.8
	source := rand.New(rand.NewPCG(5, 10))
	for range 5000 {
		p, q, r := someRats(source, 2), someRats(source, 2), someRats(source, 2)
		if source.IntN(2) == 0 {
			q[0] = p[0]
		}
		if source.IntN(4) == 0 {
			r = q
		}
		a, b, c := of(t, p), of(t, q), of(t, r)
		if got, back := point.Compare(a, b), point.Compare(b, a); got != compareRats(p, q) || back != -got {
			t.Errorf("%s and %s: %d, exchanged %d", textOf(a), textOf(b), got, back)
		}
		if equal := p[0].Cmp(q[0]) == 0 && p[1].Cmp(q[1]) == 0; equal != (point.Compare(a, b) == 0) {
			t.Errorf("%s and %s: %v", textOf(a), textOf(b), equal)
		}
		l := []point.P{a, b, c}
		slices.SortFunc(l, point.Compare)
		if point.Compare(l[0], l[1]) > 0 || point.Compare(l[1], l[2]) > 0 || point.Compare(l[0], l[2]) > 0 {
			t.Errorf("not in one order: %s, %s, %s", textOf(l[0]), textOf(l[1]), textOf(l[2]))
		}
	}
}

func TestMiddleLiesBetween(t *testing.T) { // P5.9
	source := rand.New(rand.NewPCG(5, 11))
	rounded := 0
	for range 5000 {
		p, q := someRats(source, 2), someRats(source, 2)
		if source.IntN(4) == 0 {
			q[0] = p[0]
		}
		a, b := of(t, p), of(t, q)
		mid, e := point.Mid(a, b)
		other, e2 := point.Mid(b, a)
		if e != api.OK || e2 != api.OK || point.Compare(mid, other) != 0 || textOf(mid) != textOf(other) {
			t.Fatalf("Mid = %s, %d, exchanged %s, %d", textOf(mid), e, textOf(other), e2)
		}
		if point.Compare(a, mid)*point.Compare(b, mid) > 0 || point.Compare(a, b) != 0 && point.Compare(a, mid) == 0 {
			t.Errorf("%s does not lie between %s and %s", textOf(mid), textOf(a), textOf(b))
		}
		grid, e := point.Round(mid)
		if e != api.OK {
			continue
		}
		rounded++
		for i, n := range []int{grid.X, grid.Y} {
			far := new(big.Rat).Sub(ratsOf(mid)[i], new(big.Rat).SetInt64(int64(n)))
			if far.Abs(far).Cmp(big.NewRat(1, 2)) > 0 {
				t.Errorf("%s is rounded to %v", textOf(mid), grid)
			}
		}
	}
	if rounded < 100 {
		t.Errorf("only %d are rounded", rounded)
	}
}

func TestScaled(t *testing.T) { // P5.10
	source := rand.New(rand.NewPCG(5, 12))
	for range 5000 {
		k, x, y := 1+source.IntN(1000), source.IntN(2001)-1000, source.IntN(2001)-1000
		p, q := smallRats(source), smallRats(source)
		a, b, c, d := of(t, p), of(t, q), of(t, scaledRats(p, k, x, y)), of(t, scaledRats(q, k, x, y))
		if first, second := point.Compare(a, b), point.Compare(c, d); first != second {
			t.Errorf("%s and %s: %d, scaled %d", textOf(a), textOf(b), first, second)
		}
		box, other := nearBox(source), nearBox(source)
		scaled, scaledOther := scaledBox(box, k, x, y), scaledBox(other, k, x, y)
		if first, second := point.In(box, a), point.In(scaled, c); first != second {
			t.Errorf("%s in %v: %v, scaled %v", textOf(a), box, first, second)
		}
		if first, second := point.Meets(box, other), point.Meets(scaled, scaledOther); first != second {
			t.Errorf("%v and %v: %v, scaled %v", box, other, first, second)
		}
	}
}

func TestExamples(t *testing.T) {
	mid, e := point.Mid(point.Of(api.Point{}), point.Of(api.Point{X: 1, Y: 3}))
	expect(t, "the middle of (0, 0) and (1, 3)", mid, e, "1/2", "3/2", api.OK)
	if p, e := point.Round(mid); p != (api.Point{X: 0, Y: 1}) || e != api.OK {
		t.Errorf("Round of it is %v, %d", p, e)
	}
	if point.Compare(point.Of(api.Point{X: 1, Y: 5}), point.Of(api.Point{X: 2})) != -1 {
		t.Error("(1, 5) is not less than (2, 0)")
	}
}

func TestResultsStayAsTheyAre(t *testing.T) { // R1, R3
	p, q := at(t, "340282366920938463463374607431768211455/4", "-1/79228162514264337593543950335"), at(t, "7/3", "18446744073709551617")
	results := func() []string {
		mid, _ := point.Mid(p, q)
		back, _ := point.Decode(point.Encode(mid))
		grid, _ := point.Round(back)
		return []string{textOf(p), textOf(q), textOf(mid), textOf(back), textOf(point.Of(grid)), string(point.Encode(p))}
	}
	if first, second := results(), results(); !slices.Equal(first, second) {
		t.Errorf("%v, and again %v", first, second)
	}

	b := point.Encode(p)
	kept := slices.Clone(b)
	back, e := point.Decode(b)
	if !bytes.Equal(b, kept) {
		t.Errorf("Decode has changed its argument to %q", b)
	}
	clear(b)
	expect(t, "Decode, with bytes that have changed", back, e, p.X.String(), p.Y.String(), api.OK)
	if again := point.Encode(p); !bytes.Equal(again, kept) {
		t.Errorf("Encode returns %q, and then %q", kept, again)
	}
}

func FuzzAllArguments(f *testing.F) { // P1, P5.1 to P5.7
	f.Add([]byte{1}, []byte{2}, []byte{3}, []byte{2}, []byte{5, 6}, 0, 0, 1, 3, []byte{1, '0', 1, '0'})
	f.Add([]byte{255, 255, 255, 255, 255}, []byte{2}, []byte("some bytes"), []byte{3}, []byte(nil), most, -most, most+1, math.MinInt, raws("1/2", "-3"))
	f.Add(make([]byte, 2048), []byte(nil), bytes.Repeat([]byte{255}, 2048), []byte{1}, bytes.Repeat([]byte{255}, 2048), math.MaxInt, 1, 2, 3, raws("2/4", "01"))
	f.Fuzz(func(t *testing.T, p, q, r, s, other []byte, x, y, x2, y2 int, code []byte) {
		a := rats{ratOfBytes(p, q, x < 0), ratOfBytes(r, s, y < 0)}
		b := rats{ratOfBytes(other, q, x2 < 0), ratOfBytes(r, other, y2 < 0)}
		first, second := of(t, a), of(t, b)
		if got := point.Compare(first, second); got != compareRats(a, b) {
			t.Errorf("Compare = %d", got)
		}
		checkMid(t, a, b)
		for _, l := range []rats{a, b} {
			for _, c := range l {
				want, e := roundOf(c)
				checkRound(t, c.RatString(), want, e)
			}
			back, e := point.Decode(point.Encode(of(t, l)))
			expect(t, "Decode", back, e, l[0].RatString(), l[1].RatString(), api.OK)
			checkIn(t, boxOf(x, y, x2, y2), l)
		}
		checkMeets(t, boxOf(x, y, x2, y2), boxOf(y, x, y2, x2))
		checkMeets(t, boxOf(x, y, x2, y2), boxOf(x2, y2, x, y))
		checkDecode(t, code)
		grid, ok := point.Whole(point.Of(api.Point{X: x, Y: y}))
		if ok != (point.Valid(api.Point{X: x, Y: y}) == api.OK) || ok != isValid(x, y) || ok && grid != (api.Point{X: x, Y: y}) || !ok && grid != (api.Point{}) {
			t.Errorf("Whole(%d, %d) = %v, %v", x, y, grid, ok)
		}
		if want := isValid(x, y) && isValid(x2, y2) && x <= x2 && y <= y2; want != (point.ValidBox(boxOf(x, y, x2, y2)) == api.OK) {
			t.Errorf("ValidBox of (%d, %d) and (%d, %d) is not %v", x, y, x2, y2, want)
		}
	})
}

// rats is a point whose coordinates are numbers of math/big.
type rats [2]*big.Rat

func checkMid(t *testing.T, a, b rats) {
	t.Helper()
	mid, e := point.Mid(of(t, a), of(t, b))
	var texts []string
	for i := range a {
		if x := wantedMiddle(a[i], b[i]); x != nil {
			texts = append(texts, x.RatString())
		}
	}
	if len(texts) < 2 {
		expect(t, "Mid", mid, e, "0", "0", api.ErrLimit)
	} else {
		expect(t, "Mid", mid, e, texts[0], texts[1], api.OK)
	}
}

// wantedMiddle returns the middle, or nil if frac.Add or frac.Div has no result (P4.2, P4.3).
func wantedMiddle(x, y *big.Rat) *big.Rat {
	divisor := new(big.Int).GCD(nil, nil, x.Denom(), y.Denom())
	first, second := new(big.Int).Div(x.Denom(), divisor), new(big.Int).Div(y.Denom(), divisor)
	left, right := new(big.Int).Mul(x.Num(), second), new(big.Int).Mul(y.Num(), first)
	for _, n := range []*big.Int{left, right, new(big.Int).Add(left, right), new(big.Int).Mul(first, y.Denom())} {
		if n.BitLen() > 16384 {
			return nil
		}
	}
	middle := new(big.Rat).Add(x, y)
	if middle.Mul(middle, big.NewRat(1, 2)); max(middle.Num().BitLen(), middle.Denom().BitLen()) > 16384 {
		return nil
	}
	return middle
}

func checkIn(t *testing.T, b api.Box, p rats) {
	t.Helper()
	least, greatest := ratsOf(point.Of(b.Min)), ratsOf(point.Of(b.Max))
	want := p[0].Cmp(least[0]) >= 0 && p[0].Cmp(greatest[0]) <= 0 && p[1].Cmp(least[1]) >= 0 && p[1].Cmp(greatest[1]) <= 0
	if got := point.In(b, of(t, p)); got != want {
		t.Errorf("In(%v, (%.50s, %.50s)) = %v", b, p[0], p[1], got)
	}
}

func checkMeets(t *testing.T, a, b api.Box) {
	t.Helper()
	want := max(a.Min.X, b.Min.X) <= min(a.Max.X, b.Max.X) && max(a.Min.Y, b.Min.Y) <= min(a.Max.Y, b.Max.Y)
	if there, back := point.Meets(a, b), point.Meets(b, a); there != want || back != want {
		t.Errorf("Meets(%v, %v) = %v, exchanged %v", a, b, there, back)
	}
}

// checkRound checks Round of points with a coordinate, as X, as Y and as both.
func checkRound(t *testing.T, x string, want int, errno api.Errno) {
	t.Helper()
	for _, c := range []struct {
		p    point.P
		want api.Point
	}{
		{at(t, x, "-4/3"), api.Point{X: want, Y: -1}},
		{at(t, "4/3", x), api.Point{X: 1, Y: want}},
		{at(t, x, x), api.Point{X: want, Y: want}},
	} {
		if errno != api.OK {
			c.want = api.Point{}
		}
		if got, e := point.Round(c.p); got != c.want || e != errno {
			t.Errorf("Round of %.90s = %v, %d, want %v, %d", textOf(c.p), got, e, c.want, errno)
		}
	}
}

// roundOf returns the nearest integer to x, the lesser one of two, or 0 and ErrRange.
func roundOf(x *big.Rat) (int, api.Errno) {
	// -floor((1 - 2x) / 2), where big.Int.Div rounds down, since the divisor is positive.
	num := new(big.Int).Sub(x.Denom(), new(big.Int).Lsh(x.Num(), 1))
	n := num.Div(num, new(big.Int).Lsh(x.Denom(), 1))
	if n.Neg(n).CmpAbs(big.NewInt(most)) > 0 {
		return 0, api.ErrRange
	}
	return int(n.Int64()), api.OK
}

// checkDecode compares Decode with what the bytes of P5.7 are.
func checkDecode(t *testing.T, b []byte) {
	t.Helper()
	p, e := point.Decode(b)
	if e == api.OK {
		if again := point.Encode(p); !bytes.Equal(again, b) {
			t.Errorf("%q is decoded as %s, which is encoded as %q", b, textOf(p), again)
		}
		return
	}
	expect(t, "Decode", p, e, "0", "0", api.ErrForm)
	if len(b) > 1 && int(b[0]) < min(128, len(b)-1) { // lengths of one byte: nothing is rejected that is an encoding
		x, rest := string(b[1:1+b[0]]), b[1+b[0]:]
		y := string(rest[1:])
		_, e := frac.Parse(x)
		_, e2 := frac.Parse(y)
		if e == api.OK && e2 == api.OK && int(rest[0]) == len(y) && len(y) < 128 {
			t.Errorf("%q is rejected, though it is (%s, %s)", b, x, y)
		}
	}
}

// expect reports a point or an error that is not the expected one.
func expect(t *testing.T, name string, got point.P, e api.Errno, x, y string, errno api.Errno) {
	t.Helper()
	if got.X.String() != x || got.Y.String() != y || e != errno {
		t.Fatalf("%.60s: %.120s, error %d, want (%.60s, %.60s), error %d", name, textOf(got), e, x, y, errno)
	}
}

func at(t *testing.T, x, y string) point.P {
	t.Helper()
	a, e := frac.Parse(x)
	b, e2 := frac.Parse(y)
	if e != api.OK || e2 != api.OK {
		t.Fatalf("frac.Parse(%.60s): %d, frac.Parse(%.60s): %d", x, e, y, e2)
	}
	return point.P{X: a, Y: b}
}

func of(t *testing.T, p rats) point.P {
	t.Helper()
	return at(t, p[0].RatString(), p[1].RatString())
}

func ratsOf(p point.P) rats {
	x, _ := new(big.Rat).SetString(p.X.String())
	y, _ := new(big.Rat).SetString(p.Y.String())
	return rats{x, y}
}

func textOf(p point.P) string {
	return "(" + p.X.String() + ", " + p.Y.String() + ")"
}

func compareRats(a, b rats) int {
	if order := a[0].Cmp(b[0]); order != 0 {
		return order
	}
	return a[1].Cmp(b[1])
}

func isValid(x, y int) bool {
	return -most <= x && x <= most && -most <= y && y <= most
}

func boxOf(x, y, x2, y2 int) api.Box {
	return api.Box{Min: api.Point{X: x, Y: y}, Max: api.Point{X: x2, Y: y2}}
}

// raws returns the texts as a wire.Writer writes them by Raw, for lengths of up to three bytes.
func raws(texts ...string) []byte {
	var b []byte
	for _, text := range texts {
		n := len(text)
		for ; n >= 128; n >>= 7 {
			b = append(b, byte(n)|128)
		}
		b = append(append(b, byte(n)), text...)
	}
	return b
}

func power(x, n int64) *big.Int {
	return new(big.Int).Exp(big.NewInt(x), big.NewInt(n), nil)
}

// greatest returns the greatest wide integer.
func greatest() *big.Int {
	return new(big.Int).Sub(power(2, 16384), big.NewInt(1))
}

// ints returns small numbers, and numbers at the limits of valid ones, of words and of ints.
func ints() []int {
	return []int{0, 1, -1, 2, -7, 600, most - 1, most, most + 1, -most + 1, -most, -most - 1, 2 * most, -2 * most, 1<<31 - 1, -1 << 31,
		1<<32 - 1, 1 << 32, 1<<32 + 5, -1<<32 - 5, 1 << 62, math.MaxInt - 1, math.MaxInt, math.MinInt, math.MinInt + 1}
}

// orderTexts returns texts of fractions in their order.
func orderTexts() []string {
	great := greatest().String()
	return []string{"-" + great, "-18446744073709551617", "-3", "-5/2", "-1/2", "-1/3", "0", "1/" + great, "1/18446744073709551617",
		"1/3", "1/2", "3/2", "2", "10"}
}

// someInteger returns an integer with at most so many words, which are often all zeros or all ones.
func someInteger(source *rand.Rand, words int) *big.Int {
	x := new(big.Int)
	for range source.IntN(words) + 1 {
		word := source.Uint32()
		switch source.IntN(6) {
		case 0:
			word = 0
		case 1:
			word = math.MaxUint32
		case 2:
			word >>= source.IntN(32)
		}
		x.Lsh(x, 32).Or(x, big.NewInt(int64(word)))
	}
	if source.IntN(2) == 0 {
		x.Neg(x)
	}
	return x
}

// someRat returns a fraction of integers with at most so many words.
func someRat(source *rand.Rand, words int) *big.Rat {
	p, q := someInteger(source, words), someInteger(source, words)
	if q.Sign() == 0 || source.IntN(8) == 0 {
		q = big.NewInt(1)
	}
	return new(big.Rat).SetFrac(p, q)
}

func someRats(source *rand.Rand, words int) rats {
	return rats{someRat(source, words), someRat(source, words)}
}

// smallRats returns a point near those boxes that nearBox returns.
func smallRats(source *rand.Rand) rats {
	den := 1 + source.Int64N(3)
	return rats{big.NewRat(source.Int64N(9*den)-4*den, den), big.NewRat(source.Int64N(9*den)-4*den, den)}
}

func scaledRats(p rats, k, x, y int) rats {
	moved := rats{}
	for i, shift := range []int{x, y} {
		moved[i] = new(big.Rat).Mul(p[i], new(big.Rat).SetInt64(int64(k)))
		moved[i].Add(moved[i], new(big.Rat).SetInt64(int64(shift)))
	}
	return moved
}

func scaledBox(b api.Box, k, x, y int) api.Box {
	return boxOf(b.Min.X*k+x, b.Min.Y*k+y, b.Max.X*k+x, b.Max.Y*k+y)
}

// ratOfBytes returns a fraction in range; the denominator is 1 if there would be none.
func ratOfBytes(p, q []byte, minus bool) *big.Rat {
	num, den := new(big.Int).SetBytes(p[:min(len(p), 2048)]), new(big.Int).SetBytes(q[:min(len(q), 2048)])
	if den.Sign() == 0 {
		den = big.NewInt(1)
	}
	if minus {
		num.Neg(num)
	}
	return new(big.Rat).SetFrac(num, den)
}

// nearBox returns a box with small coordinates, which can be exchanged.
func nearBox(source *rand.Rand) api.Box {
	return boxOf(source.IntN(9)-4, source.IntN(9)-4, source.IntN(9)-4, source.IntN(9)-4)
}

// someBoxes returns boxes with coordinates of all sizes, which can be exchanged.
func someBoxes(source *rand.Rand, n int) []api.Box {
	list := make([]api.Box, n)
	for i := range list {
		var c [4]int
		for j := range c {
			switch source.IntN(4) {
			case 0:
				c[j] = ints()[source.IntN(len(ints()))]
			case 1:
				c[j] = source.IntN(9) - 4
			default:
				c[j] = source.IntN(2*most+1) - most
			}
		}
		list[i] = boxOf(c[0], c[1], c[2], c[3])
		if source.IntN(2) == 0 {
			list[i] = boxOf(min(c[0], c[2]), min(c[1], c[3]), max(c[0], c[2]), max(c[1], c[3]))
		}
	}
	return list
}

// nearRat returns a number at a coordinate of a box, or near it, or between two of them.
func nearRat(source *rand.Rand, b api.Box) *big.Rat {
	list := []int{b.Min.X, b.Min.Y, b.Max.X, b.Max.Y}
	x := new(big.Rat).SetInt64(int64(list[source.IntN(4)]))
	switch source.IntN(4) {
	case 0:
		return x
	case 1:
		x.Add(x, new(big.Rat).SetInt64(int64(list[source.IntN(4)])))
		return x.Mul(x, big.NewRat(1, 2))
	default:
		return x.Add(x, big.NewRat(source.Int64N(5)-2, 1+source.Int64N(1000)))
	}
}
