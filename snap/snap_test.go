package snap_test

import (
	"bytes"
	"fmt"
	"math"
	"math/rand/v2"
	"slices"
	"strings"
	"testing"

	"meresman/api"
	"meresman/point"
	"meresman/snap"
	"meresman/wire"
)

// Expected results are those of the model, or were found by hand with pencil and paper.

func TestExamples(t *testing.T) { // P13.2
	d := drawing(t, "0 0, 0 10, 1 5", [2]int{0, 1})
	for _, edges := range [][][2]int{{{0, 1}}, {{0, 1}, {0, 2}}} {
		d.E = edges
		expectMove(t, d, 2, point.Of(xy(1, 6)), true)
		expectMove(t, d, 2, point.Of(xy(-1, 5)), false)
	}
}

// expectMove checks what Moves returns, of the program and of the model.
func expectMove(t testing.TB, d snap.Drawing, v int, to point.P, want bool) {
	t.Helper()
	name := fmt.Sprintf("Moves of %d to %s in %s", v, pointText(to), text(d))
	got, e := snap.Moves(d, v, to)
	expect(t, name, fmt.Sprint(got, e), fmt.Sprint(want, api.OK))
	got, e = canMove(d, v, to)
	expect(t, "the model of "+name, fmt.Sprint(got, e), fmt.Sprint(want, api.OK))
}

// checkMove checks that Moves returns what the model does, and returns it.
func checkMove(t testing.TB, d snap.Drawing, v int, to point.P) bool {
	t.Helper()
	got, e := snap.Moves(d, v, to)
	want, e2 := canMove(d, v, to)
	expect(t, fmt.Sprintf("Moves of %d to %s in %s", v, pointText(to), text(d)), fmt.Sprint(got, e), fmt.Sprint(want, e2))
	return got
}

// expectError checks that all functions return an error of a drawing, whatever the other arguments are.
func expectError(t testing.TB, d snap.Drawing, want api.Errno) {
	t.Helper()
	name := " of " + text(d)
	expect(t, "Valid"+name, snap.Valid(d), want)
	expect(t, "the model of Valid"+name, faultOf(d), want)
	if want == api.OK {
		return
	}
	for _, v := range []int{0, 1, len(d.V), -1} {
		for _, to := range ofGrid(xy(0, 0), xy(most+1, 0)) {
			moves, e := snap.Moves(d, v, to)
			expect(t, "Moves"+name, fmt.Sprint(moves, e), fmt.Sprint(false, want))
		}
	}
	round, left, e := snap.Round(d)
	expect(t, "Round"+name, fmt.Sprint(len(round.V), len(round.E), len(left), e), fmt.Sprint(0, 0, 0, want))
	turns, e := snap.Turns(d)
	expect(t, "Turns"+name, fmt.Sprint(len(turns), e), fmt.Sprint(0, want))
	b, e := snap.Encode(d)
	expect(t, "Encode"+name, fmt.Sprint(len(b), e), fmt.Sprint(0, want))
	d, e = snap.Decode(writtenOf(d))
	expect(t, "Decode of the encoding"+name, fmt.Sprint(len(d.V), len(d.E), e), fmt.Sprint(0, 0, api.ErrForm))
}

func TestLimits(t *testing.T) { // P13.1
	full := lattice(64, 128, func(x, y int) point.P { return over(3*x-90, 7*y-200, 1) })
	expect(t, "the numbers of vertices and edges", fmt.Sprint(len(full.V), len(full.E)), "4096 8192")
	expect(t, "Valid of 4096 vertices and 8192 edges", snap.Valid(full), api.OK)
	for _, c := range []struct {
		vertices, edges int
		want            api.Errno
	}{
		{4096, 0, api.OK}, {4097, 0, api.ErrLimit}, {4096, 8193, api.ErrLimit}, {4097, 8193, api.ErrLimit}, {0, 8193, api.ErrLimit},
		{5000, 1, api.ErrLimit}, {0, 8192, api.ErrArg}, {5000, 8192, api.ErrLimit},
	} {
		d := snap.Drawing{V: make([]point.P, c.vertices), E: make([][2]int, c.edges)}
		if c.want == api.OK {
			for i := range d.V {
				d.V[i] = over(i, 1, 2)
			}
		}
		expectError(t, d, c.want)
	}
	// One more of either, though the others are fine.
	more := clone(full)
	more.V = append(more.V, point.Of(xy(most, most)))
	expect(t, "Valid of 4097 vertices", snap.Valid(more), api.ErrLimit)
	more = lattice(64, 129, func(x, y int) point.P { return over(3*x-90, 7*y-200, 1) })
	expect(t, "Valid of 8193 edges", snap.Valid(more), api.ErrLimit)
}

func TestErrorsInOrder(t *testing.T) { // P13.1, P13.2: what comes first
	d := snap.Drawing{V: make([]point.P, 4097), E: [][2]int{{1, 0}}}
	expectError(t, d, api.ErrLimit)
	d.V = d.V[:6]
	d.V[5] = point.Of(xy(most+1, 0))
	expectError(t, d, api.ErrArg)
	d.E = [][2]int{{0, 1}, {2, 3}}
	expectError(t, d, api.ErrRange)
	d.V = slices.Concat(ofGrid(xy(0, 0), xy(4, 4), xy(4, 0), xy(0, 4)), make([]point.P, 1))
	expectError(t, d, api.ErrTwice)
	d.V = d.V[:4]
	expectError(t, d, api.ErrCross)
	d.E = d.E[:1]
	expectError(t, d, api.OK)
	out, in := point.Of(xy(0, -most-1)), point.Of(xy(0, -most))
	for _, c := range []struct {
		v    int
		to   point.P
		want api.Errno
	}{
		{-1, out, api.ErrNone}, {4, out, api.ErrNone}, {4, in, api.ErrNone}, {math.MaxInt, in, api.ErrNone}, {math.MinInt, in, api.ErrNone},
		{3, out, api.ErrRange}, {0, out, api.ErrRange}, {3, at(t, "0", "-2147483649/2"), api.ErrRange}, {3, at(t, "1/18446744073709551617", "0"), api.ErrRange},
	} {
		moves, e := snap.Moves(d, c.v, c.to)
		expect(t, fmt.Sprint("Moves of ", c.v), fmt.Sprint(moves, e), fmt.Sprint(false, c.want))
		moves, e = canMove(d, c.v, c.to)
		expect(t, fmt.Sprint("the model of Moves of ", c.v), fmt.Sprint(moves, e), fmt.Sprint(false, c.want))
	}
	moves, e := snap.Moves(snap.Drawing{}, 0, point.P{})
	expect(t, "Moves in nothing", fmt.Sprint(moves, e), fmt.Sprint(false, api.ErrNone))
}

func TestErrArg(t *testing.T) { // P13.1
	for _, c := range []struct {
		edges [][2]int
		want  api.Errno
	}{
		{nil, api.OK},
		{[][2]int{}, api.OK},
		{[][2]int{{0, 1}, {0, 3}, {1, 3}}, api.OK},
		{[][2]int{{4, 5}}, api.OK},
		{[][2]int{{0, 0}}, api.ErrArg},
		{[][2]int{{5, 5}}, api.ErrArg},
		{[][2]int{{1, 0}}, api.ErrArg},
		{[][2]int{{-1, 0}}, api.ErrArg},
		{[][2]int{{0, -1}}, api.ErrArg},
		{[][2]int{{-2, -1}}, api.ErrArg},
		{[][2]int{{5, 6}}, api.ErrArg},
		{[][2]int{{6, 7}}, api.ErrArg},
		{[][2]int{{0, math.MaxInt}}, api.ErrArg},
		{[][2]int{{math.MinInt, 3}}, api.ErrArg},
		{[][2]int{{math.MinInt, math.MaxInt}}, api.ErrArg},
		{[][2]int{{math.MaxInt, math.MinInt}}, api.ErrArg},
		{[][2]int{{0, 1}, {0, 1}}, api.ErrArg},
		{[][2]int{{0, 1}, {1, 3}, {0, 3}}, api.ErrArg},
		{[][2]int{{0, 1}, {0, 3}, {0, 2}}, api.ErrArg},
		{[][2]int{{1, 2}, {0, 3}}, api.ErrArg},
		{[][2]int{{0, 4}, {1, 3}, {1, 6}}, api.ErrArg}, // though others cross
		{[][2]int{{0, 4}, {1, 3}, {4, 3}}, api.ErrArg},
		{[][2]int{{0, 4}, {1, 3}}, api.ErrCross},
	} {
		expectError(t, drawing(t, "0 0, 0 4, 1 2, 4 0, 4 4, 5 5", c.edges...), c.want)
	}
	expectError(t, snap.Drawing{E: [][2]int{{0, 1}}}, api.ErrArg)
	expectError(t, snap.Drawing{}, api.OK)
}

func TestErrRange(t *testing.T) { // P13.1
	long, longer := "18446744073709551616", "18446744073709551617" // 2^64 and 2^64 + 1
	huge := "1" + strings.Repeat("0", 4900)
	for _, c := range []struct {
		vertices string
		want     api.Errno
	}{
		{"0 0", api.OK},
		{"-1073741824 -1073741824, -1073741824 1073741824, 1073741824 -1073741824, 1073741824 1073741824", api.OK},
		{"1073741825 0", api.ErrRange},
		{"-1073741825 0", api.ErrRange},
		{"0 1073741825", api.ErrRange},
		{"0 -1073741825", api.ErrRange},
		{"-9223372036854775808 9223372036854775807", api.ErrRange},
		{"0 0, 1 0, 2 0, 1073741825 0", api.ErrRange},
		{"2147483647/2 -2147483647/2", api.OK},
		{"2147483649/2 0", api.ErrRange},
		{"0 -2147483649/2", api.ErrRange},
		{"1/" + long + " -1/" + long, api.OK},
		{"1/" + longer + " 0", api.ErrRange},
		{"0 1/" + longer, api.ErrRange},
		{"0 0, -1/" + longer + " 0, 0 0", api.ErrRange},
		{"0 1, 1 -3/" + longer, api.ErrRange},
		{huge + " 0", api.ErrRange},
		{"0 -" + huge, api.ErrRange},
		{"1/" + huge + " 0", api.ErrRange},
		{"0 7/" + huge, api.ErrRange},
		{"19807040628566084398385987583/" + long + " 0", api.OK},       // 2^30 - 1/2^64
		{"19807040628566084398385987585/" + long + " 0", api.ErrRange}, // 2^30 + 1/2^64
	} {
		expectError(t, drawing(t, c.vertices), c.want)
	}
}

func TestErrTwice(t *testing.T) { // P13.1
	for _, c := range []struct {
		vertices string
		want     api.Errno
	}{
		{"0 0, 0 0", api.ErrTwice},
		{"5 1, 0 0, 3 3, 2 9, 0 0", api.ErrTwice},
		{"1/3 1/2, 1 1, 1/3 1/2", api.ErrTwice},
		{"7 7, 3 2, 2 3, 7 7, 0 1", api.ErrTwice},
		{"0 0, 1/18446744073709551616 0, 1/18446744073709551615 0", api.OK},
		{"0 1/18446744073709551616, 0 0, 0 1/18446744073709551616", api.ErrTwice},
		{"1 2, 2 1, 1 1, 2 2", api.OK},
	} {
		expectError(t, drawing(t, c.vertices), c.want)
	}
	d := snap.Drawing{V: []point.P{over(1, 3, 1), over(2, 6, 2)}}
	expectError(t, d, api.ErrTwice)
	expectError(t, drawing(t, "0 0, 4 4, 4 0, 0 4, 0 0", [2]int{0, 1}, [2]int{2, 3}), api.ErrTwice) // though edges cross
}

func TestErrCross(t *testing.T) { // P13.1
	for _, c := range []struct {
		vertices string
		edges    [][2]int
		want     api.Errno
	}{
		{"0 0, 4 4, 4 0, 0 4", [][2]int{{0, 1}, {2, 3}}, api.ErrCross},
		{"0 0, 4 0, 4 4, 0 4", [][2]int{{0, 1}, {0, 3}, {1, 2}, {2, 3}}, api.OK},
		{"0 0, 4 0, 4 4, 0 4", [][2]int{{0, 1}, {0, 2}, {0, 3}, {1, 2}, {2, 3}}, api.OK},
		{"0 0, 4 4, 2 2", [][2]int{{0, 1}}, api.ErrCross}, // a vertex without edges on an edge
		{"0 0, 4 4, 2 2", [][2]int{{0, 2}, {1, 2}}, api.OK},
		{"0 0, 4 4, 2 2", [][2]int{{0, 1}, {1, 2}}, api.ErrCross}, // one edge along another one
		{"0 0, 4 4, 2 2", [][2]int{{0, 1}, {0, 2}}, api.ErrCross},
		{"0 0, 3 3, 1 1, 4 4", [][2]int{{0, 1}, {2, 3}}, api.ErrCross},
		{"0 0, 3 3, 1 1, 4 4", [][2]int{{0, 3}, {1, 2}}, api.ErrCross},
		{"0 0, 4 0, 2 0, 2 3", [][2]int{{0, 1}, {2, 3}}, api.ErrCross}, // an edge that ends on another one
		{"0 0, 0 4, 0 2, 3 2", [][2]int{{0, 1}, {2, 3}}, api.ErrCross}, // on an upright one
		{"0 0, 0 4, 0 6, 0 9", [][2]int{{0, 1}, {2, 3}}, api.OK},
		{"0 0, 0 4, 0 9", [][2]int{{0, 1}, {1, 2}}, api.OK},
		{"0 0, 0 4, 0 9", [][2]int{{0, 1}, {0, 2}}, api.ErrCross},
		{"0 0, 0 4, -2 2, 2 2", [][2]int{{0, 1}, {2, 3}}, api.ErrCross},
		{"0 0, 0 4, -2 2, 2 2, 0 2", [][2]int{{0, 4}, {1, 4}, {2, 4}, {3, 4}}, api.OK},
		{"0 0, 6 4, 3 2", [][2]int{{0, 1}}, api.ErrCross},
		{"0 0, 6 4, 3 36893488147419103231/18446744073709551616", [][2]int{{0, 1}}, api.OK},
		{"0 0, 6 4, 3 36893488147419103233/18446744073709551616", [][2]int{{0, 1}}, api.OK},
		{"-1073741824 -1073741824, 1073741824 1073741823, 0 -1/2", [][2]int{{0, 1}}, api.ErrCross},
		{"-1073741824 -1073741824, 1073741824 1073741823, 0 -9223372036854775807/18446744073709551616", [][2]int{{0, 1}}, api.OK},
		{"-1073741824 -1073741824, 1073741824 1073741824, -1073741824 1073741824, 1073741824 -1073741824", [][2]int{{0, 1}, {2, 3}}, api.ErrCross},
		{"-1/3 -1/3, 1/3 1/3, -1/5 1/5, 1/7 -1/7", [][2]int{{0, 1}, {2, 3}}, api.ErrCross},
		{"-1/3 -1/3, 1/3 1/3, -1/5 1/5, -1/7 1/7", [][2]int{{0, 1}, {2, 3}}, api.OK},
	} {
		expectError(t, drawing(t, c.vertices, c.edges...), c.want)
	}
}

func TestSmallDrawings(t *testing.T) { // P13.1, P13.4: all of up to three edges between nine vertices, in several orders
	source := rand.New(rand.NewPCG(13, 1))
	all := pairs(9)
	crossed, clear := 0, 0
	for mask := range 1 << 18 {
		i, k, l := mask%37-1, mask/37%37-1, mask/37/37%37-1
		if mask >= 37*37*37 || !(i < k || i < 0 && k < 0) || !(k < l || k < 0 && l < 0) {
			continue
		}
		var d snap.Drawing
		for _, n := range source.Perm(9) {
			d.V = append(d.V, over(n/3, n%3, 1+mask%2))
		}
		for _, e := range []int{i, k, l} {
			if e >= 0 {
				d.E = append(d.E, all[e])
			}
		}
		e := snap.Valid(d)
		expect(t, "Valid of "+text(d), e, faultOf(d))
		if e == api.OK {
			checkTurns(t, d)
			clear++
		} else {
			crossed++
		}
	}
	expect(t, "the number of drawings", clear+crossed, 1+36+36*35/2+36*35*34/6)
	if clear < 1000 || crossed < 1000 {
		t.Errorf("only %d and %d drawings", clear, crossed)
	}
}

// checkTurns checks that Turns returns what the model does.
func checkTurns(t testing.TB, d snap.Drawing) {
	t.Helper()
	got, e := snap.Turns(d)
	expect(t, "Turns of "+text(d), fmt.Sprint(got, e), fmt.Sprint(turnsOf(d), api.OK))
}

func TestTangles(t *testing.T) { // P13.1, P13.4
	source := rand.New(rand.NewPCG(13, 2))
	for _, choose := range []places{grid, halves, tiny, tight, far} {
		found := map[api.Errno]int{}
		for range 400 {
			d := tangle(source, choose)
			e := snap.Valid(d)
			expect(t, "Valid of "+text(d), e, faultOf(d))
			found[e]++
			d = planar(source, choose, 9, 20)
			expect(t, "Valid of "+text(d), snap.Valid(d), api.OK)
			checkTurns(t, d)
			if free := pairs(len(d.V)); len(free) > len(d.E) { // with an edge that crosses another one, unless it takes a place that is left
				e := free[source.IntN(len(free))]
				d.E = append(d.E, e)
				sortEdges(d.E)
				expect(t, "Valid of "+text(d), snap.Valid(d), faultOf(d))
			}
		}
		if found[api.OK] < 60 || found[api.ErrCross] < 60 {
			t.Errorf("only %v drawings", found)
		}
	}
}

func TestMoves(t *testing.T) { // P13.2
	type move struct {
		v    int
		to   string
		want bool
	}
	for _, c := range []struct {
		d     snap.Drawing
		moves []move
	}{
		{drawing(t, "0 0"), []move{{0, "0 0", true}, {0, "5/3 -7", true}, {0, "1073741824 -1073741824", true}}},
		{drawing(t, "0 0, 2 0"), []move{ // past another vertex, which may not lie on the way
			{0, "1 0", true}, {0, "2 0", false}, {0, "3 0", false}, {0, "-3 0", true}, {0, "3 1", true}, {1, "-1 0", false}, {1, "0 0", false},
		}},
		{drawing(t, "0 0, 0 4, 2 2", [2]int{0, 1}), []move{ // past an edge, which may not be touched
			{2, "-2 2", false}, {2, "0 2", false}, {2, "0 4", false}, {2, "0 5", true}, {2, "-2 6", false}, {2, "-2 13/2", true},
			{2, "1/18446744073709551616 2", true}, {2, "-1/18446744073709551616 2", false}, {2, "2 2", true},
			{2, "0 0", false}, {2, "0 -1/2", true},
		}},
		{drawing(t, "0 0, 4 0", [2]int{0, 1}), []move{ // along its own edge, on either side, but not past the other end
			{0, "1 0", true}, {0, "-1 0", true}, {0, "4 0", false}, {0, "5 0", false}, {1, "-1 0", false}, {0, "5 1", true}, {0, "5 -1", true},
		}},
		{drawing(t, "0 0, 4 0, 2 1", [2]int{0, 1}), []move{ // not with its edge over a vertex
			{0, "0 1", true}, {0, "0 2", false}, {0, "0 3", false}, {0, "0 -3", true}, {0, "5 1", true}, {0, "0 15/8", true}, {1, "4 2", false},
			{1, "4 31/16", true}, {0, "2 1", false}, {0, "2 2", false}, {0, "2 1/2", true},
		}},
		{drawing(t, "0 0, 4 0, 2 0", [2]int{0, 2}, [2]int{1, 2}), []move{ // a line
			{2, "3 0", true}, {2, "1 0", true}, {2, "4 0", false}, {2, "0 0", false}, {2, "2 9", true}, {2, "-2 1", true}, {2, "-2 0", false},
			{0, "1 0", true}, {0, "3 0", false}, {0, "-7 0", true}, {0, "3 1", true}, {0, "5 2", true},
		}},
		{drawing(t, "0 0, 4 0, 4 4, 0 4, 2 2", [2]int{0, 4}, [2]int{1, 4}, [2]int{2, 4}, [2]int{3, 4}), []move{ // a star
			{4, "1 2", true}, {4, "0 2", true}, {4, "-1 2", true}, {4, "1/2 1/2", true}, {4, "4 4", false}, {0, "-3 -3", true}, {0, "1 1", true},
			{0, "0 1", true}, {0, "-1 3", true}, {0, "0 4", false}, {0, "1 3", false}, {0, "3 1", false}, {0, "5 0", false}, {0, "4 -1", true},
		}},
		{drawing(t, "0 0, 4 0, 0 4, 1 1", [2]int{0, 1}, [2]int{0, 2}, [2]int{1, 2}), []move{ // a triangle, and a vertex in it
			{3, "2 1", true}, {3, "2 2", false}, {3, "3 3", false}, {3, "-1 -1", false}, {0, "1/2 1/2", true}, {0, "1 1", false},
			{0, "2 2", false}, {1, "2 1", true}, {1, "5/4 1", true}, {1, "1/2 1", false}, {1, "8 8", false}, {1, "9 8", true},
		}},
		{drawing(t, "0 0, 4 0, 0 4, 9 9", [2]int{0, 1}, [2]int{0, 2}, [2]int{1, 2}), []move{ // out through the opposite side, and back
			{0, "1 1", true}, {0, "2 2", false}, {0, "3 3", false}, {0, "-9 -9", true}, {1, "1 3/2", true}, {1, "-1 1", false}, {3, "3 3", true}, {3, "2 2", false},
		}},
		{drawing(t, "0 0, 6 0, 2 1, 2 5", [2]int{0, 1}, [2]int{2, 3}), []move{ // an edge that begins in the triangle, or runs through it
			{0, "0 1", true}, {0, "0 3/2", false}, {0, "0 9", false}, {1, "6 5", false}, {1, "6 2", true}, {1, "6 3", false}, {0, "5 5", false}, {0, "1 5", false},
		}},
		{drawing(t, "-1 2, 3 2, 0 0, 0 4, 3 -5", [2]int{0, 1}, [2]int{2, 4}), []move{ // an edge on the way of a vertex whose edge it does not meet
			{2, "0 1", true}, {2, "0 2", false}, {2, "0 3", false}, {3, "0 3", true}, {3, "0 1", false}, {2, "5 4", false}, {2, "7 4", true}, {4, "3 3", false},
		}},
	} {
		for _, m := range c.moves {
			expectMove(t, c.d, m.v, points(t, m.to)[0], m.want)
		}
	}
}

func TestAllSmallMoves(t *testing.T) { // P13.2: all of four vertices on a small grid, to all of its points and those halfway between them
	source := rand.New(rand.NewPCG(13, 3))
	moved, kept := 0, 0
	for set := range 1 << 9 {
		var v []point.P
		for i := range 9 {
			if set>>i&1 == 1 {
				v = append(v, over(i%3, i/3, 1))
			}
		}
		if len(v) != 4 {
			continue
		}
		source.Shuffle(len(v), func(i, k int) { v[i], v[k] = v[k], v[i] })
		for edges := range 1 << 6 {
			d := snap.Drawing{V: v}
			for i, e := range pairs(4) {
				if edges>>i&1 == 1 {
					d.E = append(d.E, e)
				}
			}
			if snap.Valid(d) != api.OK {
				continue
			}
			for range 8 {
				to := over(source.IntN(7)-1, source.IntN(7)-1, 2)
				if checkMove(t, d, source.IntN(4), to) {
					moved++
				} else {
					kept++
				}
			}
		}
	}
	if moved < 8000 || kept < 8000 {
		t.Errorf("only %d moves are allowed, and %d are not", moved, kept)
	}
}

func TestSomeMoves(t *testing.T) { // P13.2
	source := rand.New(rand.NewPCG(13, 4))
	for i, choose := range []places{grid, halves, tiny, tight, far} {
		moved, kept := 0, 0
		for range 250 {
			d := planar(source, choose, 1+source.IntN(10), source.IntN(16))
			for range 12 {
				v := source.IntN(len(d.V))
				if checkMove(t, d, v, goal(source, d, v, choose)) {
					moved++
				} else {
					kept++
				}
			}
		}
		if moved < 500 || kept < 500 {
			t.Errorf("of the kind %d only %d moves are allowed, and %d are not", i, moved, kept)
		}
	}
}

// goal returns a point to which a vertex is to move: any one, one close by, or one on a line that matters.
func goal(source *rand.Rand, d snap.Drawing, v int, choose places) point.P {
	other, third := d.V[source.IntN(len(d.V))], d.V[source.IntN(len(d.V))]
	switch source.IntN(6) {
	case 0:
		return beyond(d.V[v], other, source)
	case 1:
		return beyond(other, third, source)
	case 2:
		return other
	case 3:
		q, _ := point.Round(d.V[v])
		return point.Of(q)
	default:
		return choose(source)
	}
}

// beyond returns a point on the line from a to b, if it is in range, and otherwise b.
func beyond(a, b point.P, source *rand.Rand) point.P {
	half, _ := point.Mid(a, b)
	quarter, _ := point.Mid(a, half)
	back, _ := point.Mid(b, half)
	list := []point.P{half, quarter, back}
	double := point.P{X: less(b.X, less(a.X, b.X)), Y: less(b.Y, less(a.Y, b.Y))}
	list = append(list, double)
	if p := list[source.IntN(len(list))]; inRange(p) {
		return p
	}
	return b
}

func TestRound(t *testing.T) { // P13.3
	for _, c := range []struct {
		d    snap.Drawing
		want string
		left string
	}{
		{snap.Drawing{}, " []", "[]"},
		{drawing(t, "1/2 1/2"), "0 0 []", "[]"},
		{drawing(t, "-1/2 3/2, 5 5"), "-1 1, 5 5 []", "[]"},
		{drawing(t, "7/3 -7/3, -9223372036854775807/18446744073709551616 9223372036854775809/18446744073709551616"), "2 -2, 0 1 []", "[]"},
		{drawing(t, "2147483647/2 -2147483647/2"), "1073741823 -1073741824 []", "[]"},
		{drawing(t, "0 0, 1/3 1/3"), "0 0, 1/3 1/3 []", "[1]"}, // where another vertex is already
		{drawing(t, "1/3 1/3, 0 0"), "1/3 1/3, 0 0 []", "[0]"},
		{drawing(t, "1/3 1/3, 1/4 1/4"), "1/3 1/3, 0 0 []", "[0]"}, // the second one lies on the way of the first one
		{drawing(t, "1/4 1/4, 1/3 1/3"), "0 0, 1/3 1/3 []", "[1]"},
		{drawing(t, "1/3 1/4, 1/4 1/3"), "0 0, 1/4 1/3 []", "[1]"},
		{drawing(t, "1/4 1/2, 1/4 1/4, 1 1", [2]int{1, 2}), "0 0, 1/4 1/4, 1 1 [[1 2]]", "[1]"},
		{drawing(t, "0 0, 3 1, 6/5 2/5, 0 1, 2 0", [2]int{0, 2}, [2]int{1, 2}, [2]int{2, 3}, [2]int{2, 4}), "0 0, 3 1, 1 0, 0 1, 2 0 [[0 2] [1 2] [2 3] [2 4]]", "[]"},
		{drawing(t, "-1 1, 1 0, 0 1/3", [2]int{0, 1}), "-1 1, 1 0, 0 0 [[0 1]]", "[]"},
		{drawing(t, "0 0, 3 2, 4/3 1/2, 5/3 3/2", [2]int{0, 1}), "0 0, 3 2, 1 0, 5/3 3/2 [[0 1]]", "[3]"}, // (2, 1) lies below the edge
		{drawing(t, "5/2 1, 1/3 1, 0 1", [2]int{1, 2}), "2 1, 1/3 1, 0 1 [[1 2]]", "[1]"},
	} {
		round, left, e := snap.Round(c.d)
		expect(t, "Round of "+text(c.d), fmt.Sprint(text(round), left, e), c.want+c.left+" 0")
		checkRound(t, c.d)
	}
}

// checkRound checks that Round returns what the model does, and returns it.
func checkRound(t *testing.T, d snap.Drawing) (snap.Drawing, []int) {
	t.Helper()
	got, left, e := snap.Round(d)
	want, wantLeft, e2 := rounded(d)
	expect(t, "Round of "+text(d), fmt.Sprint(text(got), left, e), fmt.Sprint(text(want), wantLeft, e2))
	return got, left
}

func TestSomeRounds(t *testing.T) { // P13.3
	source := rand.New(rand.NewPCG(13, 5))
	for i, choose := range []places{grid, halves, tiny, tight, far} {
		moved, kept := 0, 0
		for range 200 {
			d := planar(source, choose, 1+source.IntN(14), source.IntN(30))
			round, left := checkRound(t, d)
			kept += len(left)
			for v, p := range d.V {
				if point.Compare(p, round.V[v]) != 0 {
					moved++
				}
			}
		}
		if i > 0 && (moved < 100 || kept < 60) {
			t.Errorf("of the kind %d only %d vertices were moved, and %d were not", i, moved, kept)
		}
	}
}

func TestTurns(t *testing.T) { // P13.4
	for _, c := range []struct {
		d    snap.Drawing
		want string
	}{
		{snap.Drawing{}, "[]"},
		{drawing(t, "0 0, 1 1"), "[[] []]"},
		{drawing(t, "0 0, 1 1", [2]int{0, 1}), "[[1] [0]]"},
		{drawing(t, "2 2, 4 2, 4 4, 2 4, 0 4, 0 2, 0 0, 2 0, 4 0", [2]int{0, 1}, [2]int{0, 2}, [2]int{0, 3}, [2]int{0, 4}, [2]int{0, 5}, [2]int{0, 6}, [2]int{0, 7}, [2]int{0, 8}),
			"[[1 2 3 4 5 6 7 8] [0] [0] [0] [0] [0] [0] [0] [0]]"},
		{drawing(t, "4 0, 2 0, 2 2, 0 0, 0 2", [2]int{0, 2}, [2]int{1, 2}, [2]int{2, 3}, [2]int{2, 4}), "[[2] [2] [0 4 3 1] [2] [2]]"},
		{drawing(t, "0 0, 0 1, 1 0, -1 -1", [2]int{0, 1}, [2]int{0, 2}, [2]int{0, 3}, [2]int{1, 2}, [2]int{1, 3}, [2]int{2, 3}), "[[1 3 2] [0 2 3] [0 3 1] [0 1 2]]"},
		{drawing(t, "1/3 1/3, 1/3 1/2, 1/2 1/3", [2]int{0, 1}, [2]int{0, 2}, [2]int{1, 2}), "[[1 2] [0 2] [0 1]]"},
		{drawing(t, "0 0, 1073741824 1073741823, 1073741823 1073741822, 1073741822 1073741823", [2]int{0, 1}, [2]int{0, 2}, [2]int{0, 3}), "[[1 3 2] [0] [0] [0]]"},
	} {
		got, e := snap.Turns(c.d)
		expect(t, "Turns of "+text(c.d), fmt.Sprint(got, e), c.want+" 0")
		checkTurns(t, c.d)
	}
}

func TestEncode(t *testing.T) { // P13.5
	for _, c := range []struct {
		d    snap.Drawing
		want []byte
	}{
		{snap.Drawing{}, []byte{0, 0}},
		{snap.Drawing{V: []point.P{}, E: [][2]int{}}, []byte{0, 0}},
		{drawing(t, "1/2 -3"), []byte{2, 7, 3, '1', '/', '2', 2, '-', '3', 0}},
		{drawing(t, "0 0, 5 0", [2]int{0, 1}), []byte{4, 4, 1, '0', 1, '0', 4, 1, '5', 1, '0', 2, 0, 2}},
	} {
		b, e := snap.Encode(c.d)
		expect(t, "Encode of "+text(c.d), fmt.Sprint(b, e), fmt.Sprint(c.want, api.OK))
		d, e := snap.Decode(c.want)
		expect(t, "Decode", fmt.Sprint(text(d), e), fmt.Sprint(text(c.d), api.OK))
	}
	source := rand.New(rand.NewPCG(13, 6))
	for range 300 {
		d, _ := anyPlanar(source)
		checkEncode(t, d)
	}
	d := lattice(64, 128, func(x, y int) point.P { return over(5*x-400, y-3, 7) })
	checkEncode(t, d)
}

// checkEncode checks what Encode and Decode return for a valid drawing.
func checkEncode(t *testing.T, d snap.Drawing) {
	t.Helper()
	b, e := snap.Encode(d)
	expect(t, "Encode of "+text(d), fmt.Sprint(bytes.Equal(b, writtenOf(d)), e), fmt.Sprint(true, api.OK))
	again, e := snap.Decode(b)
	expect(t, "Decode of Encode of "+text(d), fmt.Sprint(text(again), e), fmt.Sprint(text(d), api.OK))
}

// writtenOf returns what a wire.Writer returns for a drawing.
func writtenOf(d snap.Drawing) []byte {
	var w wire.Writer
	w.Int(len(d.V))
	for _, p := range d.V {
		w.Raw(point.Encode(p))
	}
	w.Int(len(d.E))
	for _, e := range d.E {
		w.Int(e[0])
		w.Int(e[1])
	}
	return w.Done()
}

func TestDecodeOfNoEncoding(t *testing.T) { // P13.5; drawings that are not valid are decoded by expectError
	huge := []byte{254, 255, 255, 255, 255, 255, 255, 255, 255, 1} // 2^63 - 1
	least := []byte{255, 255, 255, 255, 255, 255, 255, 255, 255, 1}
	for _, b := range [][]byte{
		nil, {0}, {0, 0, 0}, {1, 0}, {0, 1}, {2, 0}, {0, 2}, {128, 0, 0}, {0, 128, 0},
		huge, least, append([]byte{0}, huge...), append([]byte{0}, least...), append(huge, 0), append(least, 0, 0),
		{2, 5, 1, '0', 2, '0', '0', 0},                                           // 00
		{2, 6, 3, '2', '/', '4', 1, '0', 0},                                      // not in lowest terms
		{2, 5, 1, '0', 1, '0', 0, 0},                                             // a byte too many in the point
		{2, 4, 1, '0', 1, '+', 0},                                                // no number
		{2, 4, 1, '0', 1, '0', 0, 0},                                             // a byte too many
		{2, 4, 1, '0', 1, '0', 2, 0, 0},                                          // an edge from a vertex to itself
		{4, 4, 1, '0', 1, '0', 4, 1, '0', 1, '0', 0},                             // equal vertices
		{4, 4, 1, '0', 1, '0', 4, 1, '5', 1, '0', 2, 2, 0},                       // an edge to the lesser one
		{4, 4, 1, '0', 1, '0', 4, 1, '5', 1, '0', 4, 0, 2, 0, 2},                 // an edge twice
		{4, 4, 1, '0', 1, '0', 4, 1, '5', 1, '0', 2, 0, 2, 0},                    // bytes that are left
		{4, 4, 1, '0', 1, '0', 4, 1, '5', 1, '0', 4, 0, 2},                       // a missing edge
		{4, 4, 1, '0', 1, '0', 4, 1, '5', 1, '0', 2, 0, 4},                       // an edge to no vertex
		{4, 4, 1, '0', 1, '0', 4, 1, '5', 1, '0', 2, 0, 130, 128, 0},             // 0 bits too many
		{2, 14, 11, '1', '0', '7', '3', '7', '4', '1', '8', '2', '5', 1, '0', 0}, // a length that is wrong
		{2, 13, 10, '1', '0', '7', '3', '7', '4', '1', '8', '2', '5', 1, '0', 0}, // out of range
	} {
		d, e := snap.Decode(b)
		expect(t, fmt.Sprint("Decode of ", b), fmt.Sprint(text(d), e), fmt.Sprint(text(snap.Drawing{}), api.ErrForm))
	}
	whole := writtenOf(drawing(t, "0 0, 1/2 3, -4 5/3, 7 7", [2]int{0, 1}, [2]int{0, 2}, [2]int{1, 3}))
	for n := range whole {
		d, e := snap.Decode(whole[:n])
		expect(t, "Decode of a part", fmt.Sprint(text(d), e), fmt.Sprint(text(snap.Drawing{}), api.ErrForm))
	}
	for n := range 256 {
		d, e := snap.Decode(append(bytes.Clone(whole), byte(n)))
		expect(t, "Decode of more", fmt.Sprint(text(d), e), fmt.Sprint(text(snap.Drawing{}), api.ErrForm))
	}
	// Changes of single bytes.
	good := 0
	for i := range whole {
		for n := range 256 {
			b := bytes.Clone(whole)
			b[i] = byte(n)
			if d, e := snap.Decode(b); e == api.OK {
				expect(t, fmt.Sprint("Encode of Decode of ", b), bytes.Equal(writtenOf(d), b) && faultOf(d) == api.OK, true)
				good++
			} else {
				expect(t, "Decode of changed bytes", fmt.Sprint(text(d), e), fmt.Sprint(text(snap.Drawing{}), api.ErrForm))
			}
		}
	}
	if good < 50 {
		t.Errorf("only %d encodings", good)
	}
}

func TestMemory(t *testing.T) { // R3: results share no memory, and arguments stay as they are
	source := rand.New(rand.NewPCG(13, 7))
	for range 100 {
		d, choose := anyPlanar(source)
		kept := text(d)
		_, _ = snap.Moves(d, source.IntN(len(d.V)), choose(source))
		round, left, _ := snap.Round(d)
		turns, _ := snap.Turns(d)
		b, _ := snap.Encode(d)
		again, _ := snap.Decode(b)
		expect(t, "the argument", text(d), kept)
		results := func() string { return fmt.Sprint(text(round), left, turns, b, text(again)) }
		want := results()
		for i, turn := range turns {
			turns[i] = append(turn, 77)[:len(turn)]
		}
		expect(t, "the results after more was appended to turns", results(), want)
		clear(d.V)
		clear(d.E)
		expect(t, "the results after a change of the argument", results(), want)
		clear(b)
		expect(t, "what was decoded, after a change of the bytes", text(again), kept)
	}
}

func TestGreatDrawings(t *testing.T) { // P13.1 to P13.4, at the limits
	source := rand.New(rand.NewPCG(13, 8))
	third := func(n int) int { return n*12 + source.IntN(5) - 2 }
	for _, scale := range []int{1, most / 64} {
		d := lattice(64, 128, func(x, y int) point.P { return multiplied(over(third(x), third(y), 12), scale) })
		expect(t, "Valid", snap.Valid(d), api.OK)
		turns, _ := snap.Turns(d)
		round, left, e := snap.Round(d)
		expect(t, "Round", fmt.Sprint(left, e), fmt.Sprint([]int{}, api.OK))
		after, e := snap.Turns(round)
		expect(t, "Turns after Round", fmt.Sprint(after, e), fmt.Sprint(turns, api.OK))
		if scale == 1 {
			for v := range round.V {
				expect(t, fmt.Sprint("the place of ", v), pointText(round.V[v]), pointText(over(v/64, v%64, 1)))
			}
		}
	}
	// Vertices without edges that are all at most 1 apart: the first one of each corner takes it.
	var dense snap.Drawing
	for i := range 4096 {
		dense.V = append(dense.V, over(i/64, i%64, 64))
	}
	round, left, e := snap.Round(dense)
	expect(t, "Round of dense vertices", fmt.Sprint(len(left), e), fmt.Sprint(4092, api.OK))
	expect(t, "the vertices that were moved", fmt.Sprint(pointText(round.V[0]), left[0], pointText(round.V[33])), fmt.Sprint("0 0", 1, "0 33/64"))
}

func FuzzAllArguments(f *testing.F) { // P1, P13.1 to P13.5
	f.Add([]byte{3, 3, 0, 3, 13, 0, 4, 8, 0}, []byte{0, 1}, byte(2), []byte{4, 9, 0}, []byte{0, 0})
	f.Add([]byte{3, 3, 1, 7, 4, 2, 9, 2, 3, 1, 1, 7}, []byte{0, 1, 0, 2, 1, 2, 2, 3}, byte(0), []byte{5, 5, 2}, []byte{2, 4, 1, '0', 1, '0', 0})
	f.Add([]byte{0, 0, 0, 0, 9, 0, 9, 0, 0, 9, 9, 0}, []byte{0, 1, 2, 3}, byte(9), []byte{0, 0, 0}, writtenOf(snap.Drawing{V: ofGrid(xy(0, 0), xy(1, 2)), E: [][2]int{{0, 1}}}))
	f.Fuzz(func(t *testing.T, vertices, edges []byte, v byte, to, b []byte) {
		if d, e := snap.Decode(b); e == api.OK {
			expect(t, "whether the drawing has this encoding", bytes.Equal(writtenOf(d), b), true)
			if len(b) < 200 {
				expect(t, "Valid of "+text(d), faultOf(d), api.OK)
			}
		} else if e != api.ErrForm || text(d) != text(snap.Drawing{}) {
			t.Fatalf("Decode of %v: %s, error %d", b, text(d), e)
		}
		place := func(p []byte) point.P { return over(int(p[0])-3, int(p[1])-3, 1+int(p[2])) }
		var d snap.Drawing
		for p := range slices.Chunk(vertices[:min(len(vertices), 36)/3*3], 3) {
			d.V = append(d.V, place(p))
		}
		for e := range slices.Chunk(edges[:min(len(edges), 40)/2*2], 2) {
			d.E = append(d.E, [2]int{int(e[0]), int(e[1])})
		}
		sortEdges(d.E)
		fault := faultOf(d)
		expect(t, "Valid of "+text(d), snap.Valid(d), fault)
		checkMove(t, d, int(v)-1, place(append(to, 0, 0, 0)))
		round, left, e := snap.Round(d)
		want, wantLeft, e2 := rounded(d)
		expect(t, "Round of "+text(d), fmt.Sprint(text(round), left, e), fmt.Sprint(text(want), wantLeft, e2))
		if fault == api.OK {
			checkTurns(t, d)
			written, _ := snap.Encode(d)
			expect(t, "Encode of "+text(d), bytes.Equal(written, writtenOf(d)), true)
		}
	})
}
