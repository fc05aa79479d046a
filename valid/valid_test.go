package valid_test

import (
	"bytes"
	"fmt"
	"math"
	"math/rand/v2"
	"slices"
	"strings"
	"testing"

	"meresman/api"
	"meresman/arrange"
	"meresman/faces"
	"meresman/point"
	"meresman/valid"
	"meresman/wire"
)

// Expected results are those of the model, or were found by hand with pencil and paper.

// defect is a defect without the names of its fields.
func defect(kind, index, other int) valid.Defect {
	return valid.Defect{Kind: kind, Index: index, Other: other}
}

func TestExamples(t *testing.T) { // P12.2
	var c chart
	c.line(xy(0, 0), xy(4, 0), xy(0, 4), xy(0, 0))
	d := c.draft(t)
	expect(t, "a triangle", valid.Check(d), valid.Defect{})
	d.Next[0] = 0
	expect(t, "a triangle with another Next[0]", valid.Check(d), defect(valid.BadNext, 0, 4))
	d = valid.Draft{V: ofGrid(xy(0, 0), xy(0, 2), xy(2, 0), xy(2, 2)), E: [][2]int{{0, 3}, {1, 2}}}
	expect(t, "two edges that cross", valid.Check(d), defect(valid.BadCross, 1, 0))
}

func TestKinds(t *testing.T) {
	kinds := fmt.Sprint(valid.None, valid.BadVertex, valid.BadEdge, valid.BadCross, valid.BadNext, valid.BadLeft, valid.BadOuter, valid.BadInner, valid.BadAlone)
	expect(t, "the kinds", kinds, "0 1 2 3 4 5 6 7 8")
}

func TestOf(t *testing.T) { // P12.1
	var c chart
	c.line(xy(0, 0), xy(2, 2))
	c.line(xy(0, 1), xy(2, 1))
	c.points = []api.Point{xy(5, 5)}
	expect(t, "Of", text(c.draft(t)), "0 0, 0 1, 1 1, 2 1, 2 2, 5 5, [[0 2] [1 2] [2 3] [2 4]] [3 0 6 2 5 1 7 4] [0 0 0 0 0 0 0 0] [-1] [[0]] [[5]]")
	expect(t, "Of nothing", text(valid.Of(arrange.Arr{}, faces.Faces{})), "[] [] [] [] [] []")
	// Of any values, which need not belong together.
	a := arrange.Arr{Segs: []api.Seg{{}}, Points: []api.Point{{X: 1}}, V: ofGrid(xy(7, 7), xy(7, 7), xy(most+9, 1)), E: []arrange.Edge{{A: 5, B: -2, Of: []int{9}}, {}, {A: math.MinInt, B: math.MaxInt}}}
	f := faces.Faces{Next: []int{4, -4}, Left: []int{7}, Outer: []int{1, 2, 3}, Inner: [][]int{nil, {5}, {6, -6}}, Alone: [][]int{{math.MaxInt}, {}}}
	expect(t, "Of any values", text(valid.Of(a, f)), fmt.Sprintf("7 7, 7 7, %d 1, [[5 -2] [0 0] [%d %d]] [4 -4] [7] [1 2 3] [[] [5] [6 -6]] [[%d] []]", most+9, math.MinInt, math.MaxInt, math.MaxInt))
}

func TestMemory(t *testing.T) { // P12.1 to P12.3, R3: results share no memory, and arguments stay as they are
	source := rand.New(rand.NewPCG(12, 1))
	for range 50 {
		c := islands(source)
		a, _ := arrange.New(c.segs, c.points)
		f, _ := faces.New(a)
		before := string(arrange.Encode(a)) + string(faces.Encode(f))
		d := valid.Of(a, f)
		checkParted(t, d)
		expect(t, "the arguments of Of", string(arrange.Encode(a))+string(faces.Encode(f)), before)
		d = valid.Of(a, f)
		clear(a.V)
		clear(a.E)
		for _, list := range slices.Concat([][]int{f.Next, f.Left, f.Outer}, f.Inner, f.Alone) {
			clear(list)
		}
		expect(t, "whether a draft has kept its arguments", valid.Check(d) == valid.Defect{}, true)
		for _, d := range []valid.Draft{d, changed(source, d)} {
			kept := text(d)
			valid.Check(d)
			b := valid.Encode(d)
			expect(t, "the argument of Check and Encode", text(d), kept)
			bytesBefore := bytes.Clone(b)
			again, e := valid.Decode(b)
			expect(t, "the argument of Decode", bytes.Equal(b, bytesBefore), true)
			clear(b)
			expect(t, "Decode", fmt.Sprint(text(again), e), fmt.Sprint(kept, api.OK))
			expect(t, "Encode", bytes.Equal(valid.Encode(d), bytesBefore), true)
			checkParted(t, again)
		}
	}
}

// checkParted checks that no two lists of a draft share memory; they are lost.
func checkParted(t *testing.T, d valid.Draft) {
	t.Helper()
	lists := slices.Concat([][]int{d.Next, d.Left, d.Outer}, d.Inner, d.Alone)
	for i, list := range lists {
		for k := range cap(list) {
			list[:cap(list)][k] = i
		}
	}
	for i, list := range lists {
		if slices.ContainsFunc(list, func(n int) bool { return n != i }) {
			t.Fatalf("the list %d shares its memory with another one", i)
		}
	}
	for i := range cap(d.V) {
		d.V[:cap(d.V)][i] = point.P{}
	}
	for i := range cap(d.E) {
		d.E[:cap(d.E)][i] = [2]int{}
	}
}

func TestBadVertex(t *testing.T) { // P12.2
	long, longer := "18446744073709551616", "18446744073709551617" // 2^64 and 2^64 + 1
	huge := "1" + strings.Repeat("0", 4900)
	good := point.P{}
	for _, c := range []struct {
		v     []point.P
		index int // or -1
	}{
		{nil, -1},
		{ofGrid(xy(0, 0)), -1},
		{ofGrid(xy(-most, -most), xy(-most, most), xy(most, -most), xy(most, most)), -1},
		{ofGrid(xy(most+1, 0)), 0},
		{ofGrid(xy(-most-1, 0)), 0},
		{ofGrid(xy(0, most+1)), 0},
		{ofGrid(xy(0, -most-1)), 0},
		{ofGrid(xy(math.MinInt, math.MaxInt)), 0},
		{ofGrid(xy(0, 0), xy(0, most+1), xy(most+1, 0)), 1},
		{ofGrid(xy(0, 0), xy(1, 0), xy(2, most+1)), 2},
		{[]point.P{at(t, "2147483649/2", "0")}, 0},
		{[]point.P{at(t, "0", "-2147483649/2")}, 0},
		{[]point.P{at(t, "2147483647/2", "0")}, -1},
		{[]point.P{at(t, "1/"+long, "1/"+long)}, -1},
		{[]point.P{at(t, "1/"+longer, "0")}, 0},
		{[]point.P{at(t, "0", "1/"+longer)}, 0},
		{[]point.P{good, at(t, "1", "-3/"+longer)}, 1},
		{[]point.P{at(t, "-1/"+longer, "0"), good}, 0},
		{[]point.P{at(t, huge, "0")}, 0},
		{[]point.P{at(t, "0", "-"+huge)}, 0},
		{[]point.P{at(t, "1/"+huge, "0")}, 0},
		{[]point.P{at(t, "0", "7/"+huge)}, 0},
		{ofGrid(xy(0, 0), xy(0, 1), xy(1, 0), xy(1, 1)), -1},
		{ofGrid(xy(0, 0), xy(0, 0)), 1},
		{ofGrid(xy(0, 0), xy(0, 2), xy(0, 1)), 2},
		{ofGrid(xy(0, 0), xy(1, 5), xy(1, 5), xy(0, 0)), 2},
		{ofGrid(xy(1, 0), xy(0, 9), xy(most+1, 0)), 1},
		{ofGrid(xy(2, 0), xy(3, 0), xy(3, most+1), xy(1, 0)), 2},
		{[]point.P{over(1, 3, 1), over(2, 6, 2)}, 1}, // equal ones
		{[]point.P{at(t, "1/18446744073709551615", "0"), at(t, "1/"+long, "0")}, 1},
		{[]point.P{at(t, "1/"+long, "0"), at(t, "1/18446744073709551615", "0")}, -1},
		{[]point.P{at(t, "1/"+long, "1/18446744073709551615"), at(t, "1/"+long, "1/"+long)}, 1},
	} {
		d := valid.Draft{V: c.v, E: [][2]int{{5, 4}}, Next: []int{9}} // with defects that come later
		want := defect(valid.BadVertex, c.index, -1)
		if c.index < 0 {
			want = defect(valid.BadEdge, 0, -1)
		}
		expect(t, "Check of "+text(d), valid.Check(d), want)
		expect(t, "the model of "+text(d), defectOf(d), want)
	}
}

func TestBadEdge(t *testing.T) { // P12.2
	v := ofGrid(xy(0, 0), xy(0, 4), xy(2, 2), xy(4, 0), xy(4, 4), xy(5, 5))
	for _, c := range []struct {
		e     [][2]int
		index int // or -1
	}{
		{nil, -1},
		{[][2]int{{0, 1}, {0, 3}, {1, 3}}, -1},
		{[][2]int{{4, 5}}, -1},
		{[][2]int{{0, 0}}, 0},
		{[][2]int{{5, 5}}, 0},
		{[][2]int{{1, 0}}, 0},
		{[][2]int{{-1, 0}}, 0},
		{[][2]int{{0, -1}}, 0},
		{[][2]int{{-2, -1}}, 0},
		{[][2]int{{5, 6}}, 0},
		{[][2]int{{6, 7}}, 0},
		{[][2]int{{0, math.MaxInt}}, 0},
		{[][2]int{{math.MinInt, 3}}, 0},
		{[][2]int{{math.MinInt, math.MaxInt}}, 0},
		{[][2]int{{math.MaxInt, math.MinInt}}, 0},
		{[][2]int{{0, 1}, {0, 1}}, 1},
		{[][2]int{{0, 1}, {1, 3}, {0, 3}}, 2},
		{[][2]int{{0, 1}, {0, 3}, {0, 2}, {9, 9}}, 2},
		{[][2]int{{1, 2}, {0, 3}}, 1},
		{[][2]int{{0, 4}, {1, 3}, {1, 6}}, 2}, // though others cross
		{[][2]int{{0, 4}, {1, 3}, {4, 3}}, 2},
	} {
		d := valid.Draft{V: v, E: c.e, Next: []int{99}}
		got := valid.Check(d)
		expect(t, "Check of "+text(d), got, defectOf(d))
		if c.index >= 0 {
			expect(t, "Check of "+text(d), got, defect(valid.BadEdge, c.index, -1))
		}
		expect(t, "whether an edge is bad in "+text(d), got.Kind == valid.BadEdge, c.index >= 0)
	}
	expect(t, "an edge without vertices", valid.Check(valid.Draft{E: [][2]int{{0, 1}}}), defect(valid.BadEdge, 0, -1))
}

func TestBadCross(t *testing.T) { // P12.2
	square := ofGrid(xy(0, 0), xy(0, 4), xy(2, 2), xy(4, 0), xy(4, 4))
	row := ofGrid(xy(0, 0), xy(1, 1), xy(2, 2), xy(3, 3), xy(4, 4))
	column := ofGrid(xy(3, -1), xy(3, 0), xy(3, 1), xy(3, 2), xy(4, 0))
	for _, c := range []struct {
		v      []point.P
		e      [][2]int
		at, by int
	}{
		{square, [][2]int{{0, 4}}, 0, 2},         // by a vertex alone
		{square, [][2]int{{0, 4}, {1, 3}}, 0, 2}, // though both cross, too
		{square, [][2]int{{0, 1}, {0, 2}, {0, 3}, {1, 3}, {2, 4}}, 3, 2},
		{square, [][2]int{{0, 2}, {1, 2}, {1, 3}}, 2, 2},
		{slices.Delete(slices.Clone(square), 2, 3), [][2]int{{0, 1}, {0, 3}, {1, 2}, {2, 3}}, 2, 1},
		{ofGrid(xy(0, 0), xy(0, 4), xy(1, 9), xy(3, 0), xy(4, 4)), [][2]int{{0, 4}, {1, 3}, {2, 3}}, 1, 0}, // both are crossed by the edge 0
		{ofGrid(xy(0, 0), xy(0, 4), xy(1, 9), xy(3, 0), xy(4, 4)), [][2]int{{0, 3}, {1, 4}, {2, 3}}, 2, 1},
		{ofGrid(xy(0, 0), xy(0, 1), xy(0, 2), xy(3, -1), xy(4, 9)), [][2]int{{0, 4}, {1, 3}, {2, 3}}, 1, 0},
		{ofGrid(xy(0, 0), xy(0, 1), xy(0, 4), xy(4, 2), xy(4, 3), xy(4, 5)), [][2]int{{0, 3}, {1, 4}, {2, 3}}, 2, 1},
		{ofGrid(xy(0, 0), xy(0, 1), xy(0, 4), xy(4, -2), xy(4, 2), xy(4, 3)), [][2]int{{0, 4}, {1, 5}, {2, 3}}, 2, 0}, // which crosses both
		{row, [][2]int{{0, 1}, {0, 2}}, 1, 1},                                                                         // along one another
		{row, [][2]int{{0, 3}, {1, 2}}, 0, 1},
		{row, [][2]int{{0, 1}, {1, 4}, {3, 4}}, 1, 2},
		{row, [][2]int{{0, 2}, {1, 3}}, 0, 1},
		{column, [][2]int{{0, 1}, {0, 4}, {1, 3}, {2, 3}}, 2, 2}, // upright
		{column, [][2]int{{0, 3}, {1, 4}}, 0, 1},
		{ofGrid(xy(2, 1), xy(3, 0), xy(3, 2), xy(4, 1)), [][2]int{{0, 3}, {1, 2}}, 1, 0},
		{ofGrid(xy(2, 2), xy(3, 0), xy(3, 2), xy(4, 2)), [][2]int{{0, 3}, {1, 2}}, 0, 2},
		{ofGrid(xy(2, 1), xy(3, 1), xy(3, 2), xy(4, 0)), [][2]int{{0, 1}, {1, 2}, {1, 3}, {2, 3}}, -1, 0},
		{[]point.P{over(0, 0, 1), over(1, 1, 3), over(1, 1, 2), over(1, 0, 1)}, [][2]int{{0, 2}}, 0, 1},
		{[]point.P{over(0, 0, 1), over(1, 2, 3), over(1, 0, 2), over(7, 7, 11)}, [][2]int{{0, 3}, {1, 2}}, 1, 0},
		{ofGrid(xy(-most, -most), xy(0, 0), xy(most, most)), [][2]int{{0, 2}}, 0, 1},
		{ofGrid(xy(-most, -most), xy(-most, 1-most), xy(most, most-1), xy(most, most)), [][2]int{{0, 3}, {1, 2}}, 1, 0},
		{ofGrid(xy(-most, -most), xy(-most, 1-most), xy(most-1, most-1), xy(most, most-1), xy(most, most)), [][2]int{{0, 3}, {1, 2}, {1, 4}}, -1, 0},
	} {
		d := valid.Draft{V: c.v, E: c.e, Inner: [][]int{{3}}}
		expect(t, "Check of "+text(d), valid.Check(d), defectOf(d))
		if c.at >= 0 {
			expect(t, "Check of "+text(d), valid.Check(d), defect(valid.BadCross, c.at, c.by))
		} else {
			expect(t, "Check of "+text(d), valid.Check(d).Kind, valid.BadNext)
		}
	}
}

func TestCheckOfSmallDrafts(t *testing.T) { // P12.2: all edges, pairs and triples of edges between nine vertices
	v, all := gridPoints(3), pairs(9)
	crossed, other := 0, 0
	for i := range all {
		for k := range i + 1 {
			for l := range k + 1 {
				d := valid.Draft{V: v, E: slices.Compact([][2]int{all[l], all[k], all[i]})}
				want := crossing(d)
				if want.Kind != valid.None {
					crossed++
					expect(t, "Check of "+text(d), valid.Check(d), want)
					continue
				}
				d = completed(d)
				expect(t, "Check of "+text(d), valid.Check(d), valid.Defect{})
				other++
			}
		}
	}
	expect(t, "the number of drafts", crossed+other, 36*37*38/6)
	if crossed < 1000 || other < 1000 {
		t.Errorf("only %d drafts with edges that cross, and %d others", crossed, other)
	}
}

func TestCheckOfManyDrafts(t *testing.T) { // P12.2
	source := rand.New(rand.NewPCG(12, 2))
	kinds := map[int]int{}
	for range 800 {
		d := someDraft(t, source)
		expect(t, "the model of a draft", defectOf(d), valid.Defect{})
		expect(t, "Check of "+text(d), valid.Check(d), valid.Defect{})
		for range 4 {
			d = changed(source, d)
			want := defectOf(d)
			expect(t, "Check of "+text(d), valid.Check(d), want)
			kinds[want.Kind]++
		}
		d = scatter(source)
		expect(t, "Check of "+text(d), valid.Check(d), defectOf(d))
		kinds[defectOf(d).Kind]++
	}
	for kind := range valid.BadAlone + 1 {
		if kinds[kind] < 40 {
			t.Errorf("only %d drafts have a defect of the kind %d", kinds[kind], kind)
		}
	}
}

// frame returns the draft of a square with an edge and an isolated vertex in it, and two vertices outside of it.
func frame(t testing.TB) valid.Draft {
	var c chart
	c.square(0, 0, 8)
	c.line(xy(2, 2), xy(4, 2))
	c.points = []api.Point{xy(3, 5), xy(9, 1), xy(9, 3)}
	d := c.draft(t)
	expect(t, "a square with an edge in it", text(d), "0 0, 0 8, 2 2, 3 5, 4 2, 8 0, 8 8, 9 1, 9 3, [[0 1] [0 5] [1 6] [2 4] [5 6]] "+
		"[4 2 8 0 9 1 7 6 5 3] [0 1 1 0 0 1 1 1 1 0] [-1 1] [[0] [6]] [[7 8] [3]]")
	return d
}

func TestBadLists(t *testing.T) { // P12.2
	for i, c := range []struct {
		change func(d *valid.Draft)
		want   valid.Defect
	}{
		{func(d *valid.Draft) {}, valid.Defect{}},
		{func(d *valid.Draft) { d.Next[0] = 5 }, defect(valid.BadNext, 0, 4)},
		{func(d *valid.Draft) { d.Next[9] = math.MinInt }, defect(valid.BadNext, 9, 3)},
		{func(d *valid.Draft) { d.Next[3], d.Next[5] = 1, 0 }, defect(valid.BadNext, 3, 0)},
		{func(d *valid.Draft) { d.Next = d.Next[:9] }, defect(valid.BadNext, 9, 3)},
		{func(d *valid.Draft) { d.Next = nil }, defect(valid.BadNext, 0, 4)},
		{func(d *valid.Draft) { d.Next = append(d.Next, 3) }, defect(valid.BadNext, 10, -1)},
		{func(d *valid.Draft) { d.Next = append(d.Next, 3, 4, 5) }, defect(valid.BadNext, 10, -1)},
		{func(d *valid.Draft) { d.Next = append(d.Next, 3); d.Next[7] = 7 }, defect(valid.BadNext, 7, 6)},
		{func(d *valid.Draft) { d.Next = d.Next[:8]; d.Next[1] = -1 }, defect(valid.BadNext, 1, 2)},
		{func(d *valid.Draft) { d.Left[4] = -1 }, defect(valid.BadLeft, 4, 0)},
		{func(d *valid.Draft) { d.Left[8] = 2 }, defect(valid.BadLeft, 8, 1)},
		{func(d *valid.Draft) { d.Left = d.Left[:2] }, defect(valid.BadLeft, 2, 1)},
		{func(d *valid.Draft) { d.Left = []int{} }, defect(valid.BadLeft, 0, 0)},
		{func(d *valid.Draft) { d.Left = append(d.Left, 0) }, defect(valid.BadLeft, 10, -1)},
		{func(d *valid.Draft) { d.Outer[0] = 0 }, defect(valid.BadOuter, 0, -1)},
		{func(d *valid.Draft) { d.Outer[1] = 2 }, defect(valid.BadOuter, 1, 1)},
		{func(d *valid.Draft) { d.Outer = nil }, defect(valid.BadOuter, 0, -1)},
		{func(d *valid.Draft) { d.Outer = d.Outer[:1] }, defect(valid.BadOuter, 1, 1)},
		{func(d *valid.Draft) { d.Outer = append(d.Outer, -1) }, defect(valid.BadOuter, 2, -1)},
		{func(d *valid.Draft) { d.Outer = append(d.Outer, 3, 3) }, defect(valid.BadOuter, 2, -1)},
		{func(d *valid.Draft) { d.Inner[0][0] = 4 }, defect(valid.BadInner, 0, -1)},
		{func(d *valid.Draft) { d.Inner[1] = nil }, defect(valid.BadInner, 1, -1)},
		{func(d *valid.Draft) { d.Inner[1] = []int{6, 6} }, defect(valid.BadInner, 1, -1)},
		{func(d *valid.Draft) { d.Inner = nil }, defect(valid.BadInner, 0, -1)},
		{func(d *valid.Draft) { d.Inner = d.Inner[:1] }, defect(valid.BadInner, 1, -1)},
		{func(d *valid.Draft) { d.Inner = append(d.Inner, nil) }, defect(valid.BadInner, 2, -1)},
		{func(d *valid.Draft) { d.Inner = append(d.Inner, nil, []int{6}) }, defect(valid.BadInner, 2, -1)},
		{func(d *valid.Draft) { d.Inner = append(d.Inner, nil); d.Inner[1] = nil }, defect(valid.BadInner, 1, -1)},
		{func(d *valid.Draft) { d.Inner[0], d.Inner[1] = d.Inner[1], d.Inner[0] }, defect(valid.BadInner, 0, -1)},
		{func(d *valid.Draft) { d.Inner = [][]int{{0, 6}, {}} }, defect(valid.BadInner, 0, -1)},
		{func(d *valid.Draft) { d.Alone[0] = []int{8, 7} }, defect(valid.BadAlone, 0, -1)},
		{func(d *valid.Draft) { d.Alone[0] = []int{7} }, defect(valid.BadAlone, 0, -1)},
		{func(d *valid.Draft) { d.Alone[0] = []int{7, 8, 9} }, defect(valid.BadAlone, 0, -1)},
		{func(d *valid.Draft) { d.Alone[1] = []int{2} }, defect(valid.BadAlone, 1, -1)},
		{func(d *valid.Draft) { d.Alone = nil }, defect(valid.BadAlone, 0, -1)},
		{func(d *valid.Draft) { d.Alone = d.Alone[:1] }, defect(valid.BadAlone, 1, -1)},
		{func(d *valid.Draft) { d.Alone = append(d.Alone, []int{}) }, defect(valid.BadAlone, 2, -1)},
		{func(d *valid.Draft) { d.Alone[1] = nil; d.Alone = append(d.Alone, []int{3}) }, defect(valid.BadAlone, 1, -1)},
	} {
		d := frame(t)
		c.change(&d)
		expect(t, fmt.Sprint("Check after the change ", i), valid.Check(d), c.want)
		expect(t, fmt.Sprint("the model after the change ", i), defectOf(d), c.want)
	}
}

func TestEmptyDrafts(t *testing.T) { // P12.2, R3
	expect(t, "Check of the zero Draft", valid.Check(valid.Draft{}), defect(valid.BadOuter, 0, -1))
	d := valid.Draft{Outer: []int{-1}}
	expect(t, "Check without inner cycles", valid.Check(d), defect(valid.BadInner, 0, -1))
	d.Inner = [][]int{nil}
	expect(t, "Check without isolated vertices", valid.Check(d), defect(valid.BadAlone, 0, -1))
	d.Alone = [][]int{{}}
	expect(t, "Check of no vertices", valid.Check(d), valid.Defect{})
	d.V, d.E, d.Next, d.Left, d.Inner = []point.P{}, [][2]int{}, []int{}, []int{}, [][]int{{}}
	expect(t, "Check of empty lists", valid.Check(d), valid.Defect{})
	expect(t, "Check of the draft of nothing", valid.Check(chart{}.draft(t)), valid.Defect{})
	d.V = ofGrid(xy(3, 3), xy(3, 4))
	expect(t, "Check of isolated vertices", valid.Check(d), defect(valid.BadAlone, 0, -1))
	d.Alone = [][]int{{0, 1}}
	expect(t, "Check of isolated vertices", valid.Check(d), valid.Defect{})
}

func TestOrderOfDefects(t *testing.T) { // P12.2: with all kinds of defects, which are mended one after the other
	right := frame(t)
	d := clone(right)
	d.V[8], d.V[7] = d.V[7], d.V[8]
	d.E[3], d.E[4] = [2]int{2, 7}, [2]int{6, 5} // of which the first one crosses the edge from 5 to 6
	d.Next[6], d.Left[5], d.Outer[1] = 6, 5, 4
	d.Inner, d.Alone = d.Alone, d.Inner
	for _, step := range []struct {
		mend func()
		want valid.Defect
	}{
		{func() {}, defect(valid.BadVertex, 8, -1)},
		{func() { d.V = right.V }, defect(valid.BadEdge, 4, -1)},
		{func() { d.E[4] = right.E[4] }, defect(valid.BadCross, 4, 3)},
		{func() { d.E = right.E }, defect(valid.BadNext, 6, 7)},
		{func() { d.Next = right.Next }, defect(valid.BadLeft, 5, 1)},
		{func() { d.Left = right.Left }, defect(valid.BadOuter, 1, 1)},
		{func() { d.Outer = right.Outer }, defect(valid.BadInner, 0, -1)},
		{func() { d.Inner = right.Inner }, defect(valid.BadAlone, 0, -1)},
		{func() { d.Alone = right.Alone }, valid.Defect{}},
	} {
		step.mend()
		expect(t, "Check of "+text(d), valid.Check(d), step.want)
	}
}

func TestCheckOfGreatDrafts(t *testing.T) { // P12.2, P12.4
	for _, c := range []struct {
		name  string
		chart chart
	}{
		{"squares within squares", nested(api.MaxSegs / 4)}, {"a lattice", lattice(61)}, {"a fan", fan(88)},
		{"a pencil", pencil(api.MaxSegs)}, {"slopes", slopes(254)},
	} {
		d := c.chart.draft(t)
		expect(t, c.name, valid.Check(d), valid.Defect{})
		last := d.E[len(d.E)-1]
		d.E[len(d.E)-1] = [2]int{last[0], last[0]}
		expect(t, c.name, valid.Check(d), defect(valid.BadEdge, len(d.E)-1, -1))
		d.E[len(d.E)-1] = last
		d.Alone[0] = append(d.Alone[0], 1)
		expect(t, c.name, valid.Check(d), defect(valid.BadAlone, 0, -1))
	}
	// A lattice with a diagonal at the end of its greatest square, which another one crosses, and with one over a vertex.
	d := lattice(61).draft(t)
	v := func(x, y int) int {
		i, _ := slices.BinarySearchFunc(d.V, point.Of(xy(x, y)), point.Compare)
		return i
	}
	plain := slices.Clone(d.E)
	d.E = append(d.E, [2]int{v(118, 118), v(120, 120)}, [2]int{v(118, 120), v(120, 118)})
	sortEdges(d.E)
	first, second := slices.Index(d.E, [2]int{v(118, 118), v(120, 120)}), slices.Index(d.E, [2]int{v(118, 120), v(120, 118)})
	expect(t, "diagonals that cross", valid.Check(d), defect(valid.BadCross, second, first))
	d.E = append(plain, [2]int{v(116, 118), v(120, 120)})
	sortEdges(d.E)
	first, second = slices.Index(d.E, [2]int{v(116, 118), v(120, 120)}), slices.Index(d.E, [2]int{v(118, 118), v(118, 120)})
	expect(t, "an edge that crosses another one", valid.Check(d), defect(valid.BadCross, second, first))
	d.E = append(plain, [2]int{v(116, 116), v(120, 120)})
	sortEdges(d.E)
	first = slices.Index(d.E, [2]int{v(116, 116), v(120, 120)})
	expect(t, "an edge over a vertex", valid.Check(d), defect(valid.BadCross, first, v(118, 118)))
}

func TestEncode(t *testing.T) { // P12.3
	d := valid.Draft{V: []point.P{over(1, -3, 2), {}}, E: [][2]int{{0, 64}, {-65, 1}}, Next: []int{2}, Left: []int{-2, 300}, Outer: []int{-1},
		Inner: [][]int{{7}, nil}, Alone: [][]int{{}, {8, 9}, {1}}}
	want := []byte{
		4, 9, 3, '1', '/', '2', 4, '-', '3', '/', '2', 4, 1, '0', 1, '0', // V
		4, 0, 128, 1, 129, 1, 2, // E
		1, 4, 2, 3, 216, 4, 1, 1, // Next, Left and Outer
		4, 1, 14, 0, // Inner
		6, 0, 2, 16, 18, 1, 2, // Alone
	}
	expect(t, "Encode", fmt.Sprint(valid.Encode(d)), fmt.Sprint(want))
	got, e := valid.Decode(want)
	expect(t, "Decode", fmt.Sprint(text(got), e), fmt.Sprint(text(d), api.OK))
	expect(t, "Encode of the zero Draft", fmt.Sprint(valid.Encode(valid.Draft{})), fmt.Sprint(make([]byte, 7)))
	empty := valid.Draft{V: []point.P{}, E: [][2]int{}, Next: []int{}, Left: []int{}, Outer: []int{}, Inner: [][]int{}, Alone: [][]int{}}
	expect(t, "Encode of empty lists", fmt.Sprint(valid.Encode(empty)), fmt.Sprint(make([]byte, 7)))
	source := rand.New(rand.NewPCG(12, 3))
	for range 300 {
		d := changed(source, someDraft(t, source))
		b := valid.Encode(d)
		expect(t, "Encode of "+text(d), bytes.Equal(b, writtenOf(d)), true)
		got, e := valid.Decode(b)
		expect(t, "Decode", fmt.Sprint(text(got), e), fmt.Sprint(text(d), api.OK))
	}
}

// writtenOf returns what a wire.Writer returns for a draft.
func writtenOf(d valid.Draft) []byte {
	var w wire.Writer
	ints := func(lists ...[]int) {
		for _, list := range lists {
			w.Ints(list)
		}
	}
	w.Int(len(d.V))
	for _, p := range d.V {
		w.Raw(point.Encode(p))
	}
	w.Int(len(d.E))
	for _, e := range d.E {
		w.Int(e[0])
		w.Int(e[1])
	}
	ints(d.Next, d.Left, d.Outer)
	w.Int(len(d.Inner))
	ints(d.Inner...)
	w.Int(len(d.Alone))
	ints(d.Alone...)
	return w.Done()
}

func TestDecodeOfNoEncoding(t *testing.T) { // P12.3
	noPoint := []byte{2, 5, 1, '0', 2, '0', '0', 0, 0, 0, 0, 0, 0}
	huge := []byte{254, 255, 255, 255, 255, 255, 255, 255, 255, 1} // 2^63 - 1
	for _, b := range [][]byte{
		nil, {0}, make([]byte, 6), make([]byte, 8), noPoint,
		{1, 0, 0, 0, 0, 0, 0}, {0, 1, 0, 0, 0, 0, 0}, {0, 0, 0, 0, 0, 1, 0}, {0, 0, 0, 0, 0, 0, 1}, // -1 elements
		{2, 0, 0, 0, 0, 0, 0}, {0, 2, 0, 0, 0, 0, 0}, {0, 0, 1, 0, 0, 0, 0}, {0, 0, 0, 0, 1, 0, 0}, {0, 0, 0, 0, 0, 2, 0}, {0, 0, 0, 0, 0, 0, 2}, // too many
		{128, 0, 0, 0, 0, 0, 0, 0}, // 0 with a byte too many
		huge, append([]byte{0}, huge...), append(make([]byte, 5), huge...), append(make([]byte, 6), huge...),
		{255, 255, 255, 255, 255, 255, 255, 255, 255, 1, 0, 0, 0, 0, 0, 0}, // -2^63 elements
		{2, 10, 4, '2', '/', '4', '0', 4, '1', '/', '2', 0, 0, 0, 0, 0, 0},
		{2, 9, 3, '2', '/', '4', 3, '1', '/', '2', 0, 0, 0, 0, 0, 0}, // not in lowest terms
		{2, 5, 1, '0', 1, '0', 0, 0, 0, 0, 0, 0, 0},                  // a byte too many in the point
		{2, 4, 1, '0', 1, '+', 0, 0, 0, 0, 0, 0},
	} {
		d, e := valid.Decode(b)
		expect(t, fmt.Sprint("Decode of ", b), fmt.Sprint(text(d), e), fmt.Sprint(text(valid.Draft{}), api.ErrForm))
	}
	d, e := valid.Decode([]byte{2, 4, 1, '0', 1, '0', 0, 0, 0, 0, 0, 0})
	expect(t, "Decode of a point", fmt.Sprint(text(d), e), fmt.Sprint(text(valid.Draft{V: []point.P{{}}}), api.OK))
	whole := valid.Encode(frame(t))
	for n := range len(whole) {
		d, e := valid.Decode(whole[:n])
		expect(t, "Decode of a part", fmt.Sprint(text(d), e), fmt.Sprint(text(valid.Draft{}), api.ErrForm))
	}
	for n := range 256 {
		d, e := valid.Decode(append(bytes.Clone(whole), byte(n)))
		expect(t, "Decode of more", fmt.Sprint(text(d), e), fmt.Sprint(text(valid.Draft{}), api.ErrForm))
	}
}

func TestDecodeOfShortEncodings(t *testing.T) { // P12.3: all of up to nine bytes that are less than 4
	found := 0
	for n := range 10 {
		b := make([]byte, n)
		for {
			d, e := valid.Decode(b)
			if good := isEncoding(b); good != (e == api.OK) || good && !bytes.Equal(valid.Encode(d), b) || !good && e != api.ErrForm {
				t.Fatalf("Decode of %v: %s, error %d", b, text(d), e)
			}
			if e == api.OK {
				found++
			}
			i := 0
			for i < n && b[i] == 3 {
				b[i] = 0
				i++
			}
			if i == n {
				break
			}
			b[i]++
		}
	}
	if found < 100 {
		t.Errorf("only %d encodings", found)
	}
}

// isEncoding reports whether some bytes that are less than 4 are the encoding of a draft; it has no vertices then.
func isEncoding(b []byte) bool {
	at, good := 0, true
	next := func() int {
		if at >= len(b) {
			good = false
			return 0
		}
		at++
		return int(b[at-1])
	}
	count := func() int { // 0, -1, 1 or -2
		n := next()
		good = good && n != 1 && n != 3
		return n / 2
	}
	ints := func() {
		for range next() {
			next()
		}
	}
	vertices := count()
	for range count() {
		next()
		next()
	}
	ints()
	ints()
	ints()
	for range 2 {
		for range count() {
			ints()
		}
	}
	return good && vertices == 0 && at == len(b)
}

func FuzzAllArguments(f *testing.F) { // P1, P12.2, P12.3
	f.Add([]byte{0, 0, 1, 0, 2, 1, 2, 0, 1, 2, 2, 1}, []byte{0, 1, 0, 2, 1, 3, 2, 3}, []byte{0, 3, 1, 9}, []byte{0, 0, 0, 0, 0, 0, 0})
	f.Add([]byte{0, 0, 1, 4, 4, 1, 4, 0, 1, 2, 2, 1, 2, 2, 2}, []byte{0, 3, 1, 2}, []byte{}, valid.Encode(frame(f)))
	f.Add([]byte{9, 9, 2, 8, 1, 2, 1, 1, 1}, []byte{0, 1, 1, 2}, []byte{5, 0}, []byte{2, 4, 1, '0', 1, '0', 0, 0, 0, 0, 0, 0})
	f.Fuzz(func(t *testing.T, vertices, edges, changes, b []byte) {
		if d, e := valid.Decode(b); e == api.OK {
			if !bytes.Equal(valid.Encode(d), b) {
				t.Fatalf("Encode of %s differs from %v", text(d), b)
			}
			if len(b) < 200 {
				expect(t, "Check of "+text(d), valid.Check(d), defectOf(d))
			}
		} else if e != api.ErrForm || text(d) != text(valid.Draft{}) {
			t.Fatalf("Decode of %v: %s, error %d", b, text(d), e)
		}
		var d valid.Draft
		for p := range slices.Chunk(vertices[:min(len(vertices), 45)/3*3], 3) {
			d.V = append(d.V, over(int(p[0])-3, int(p[1])-3, 1+int(p[2])))
		}
		slices.SortFunc(d.V, point.Compare)
		d.V = slices.CompactFunc(d.V, func(p, q point.P) bool { return point.Compare(p, q) == 0 })
		for e := range slices.Chunk(edges[:min(len(edges), 50)/2*2], 2) {
			d.E = append(d.E, [2]int{int(e[0]), int(e[1])})
		}
		sortEdges(d.E)
		if crossing(d).Kind == valid.None {
			d = completed(d)
			for c := range slices.Chunk(changes[:len(changes)/2*2], 2) {
				all := slices.Concat([][]int{d.Next, d.Left, d.Outer}, d.Inner, d.Alone)
				if list := all[int(c[0])%len(all)]; len(list) > 0 {
					list[int(c[1])%len(list)] += int(c[1]/16) - 8
				}
			}
		}
		expect(t, "Check of "+text(d), valid.Check(d), defectOf(d))
	})
}
