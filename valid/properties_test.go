package valid_test

import (
	"fmt"
	"math/rand/v2"
	"slices"
	"testing"

	"meresman/api"
	"meresman/overlay"
	"meresman/point"
	"meresman/valid"
)

func TestRight(t *testing.T) { // P12.4
	source := rand.New(rand.NewPCG(12, 4))
	for range 300 {
		expect(t, "Check of an arrangement", valid.Check(tangle(source).draft(t)), valid.Defect{})
		expect(t, "Check of an arrangement", valid.Check(islands(source).draft(t)), valid.Defect{})
	}
	for range 150 {
		var maps []overlay.Layer
		for range source.IntN(4) {
			c := tangle(source)
			if source.IntN(3) == 0 {
				c = islands(source)
			}
			maps = append(maps, overlay.Layer{Segs: c.segs, Points: c.points})
		}
		o, e := overlay.New(maps)
		expect(t, "overlay.New", e, api.OK)
		expect(t, "Check of an overlay", valid.Check(valid.Of(o.Arr, o.Faces)), valid.Defect{})
	}
}

func TestRightAtLimits(t *testing.T) { // P12.4: coordinates up to the limits, and fractions of them
	source := rand.New(rand.NewPCG(12, 5))
	for range 60 {
		c := tangle(source)
		for i := range c.segs {
			far := func(n int) int { return min(max(n*(most/4)-most+source.IntN(3)-1, -most), most) }
			s := &c.segs[i]
			s.A, s.B = xy(far(s.A.X), far(s.A.Y)), xy(far(s.B.X), far(s.B.Y))
		}
		c.segs = slices.DeleteFunc(c.segs, func(s api.Seg) bool { return s.A == s.B })
		d := c.draft(t)
		expect(t, "Check of "+text(d), valid.Check(d), valid.Defect{})
		expect(t, "the model of "+text(d), defectOf(d), valid.Defect{})
		d = changed(source, d)
		expect(t, "Check of "+text(d), valid.Check(d), defectOf(d))
	}
	var c chart
	c.square(-most, -most, 2*most)
	c.line(xy(1-most, 1-most), xy(most-1, 2-most), xy(most-1, most-1), xy(1-most, 1-most))
	c.line(xy(2-most, 2-most), xy(most-2, most-3)) // within the triangle, by less than 1
	c.points = []api.Point{xy(0, 0), xy(0, -1), xy(most-1, 1-most), xy(1-most, most-1)}
	expect(t, "Check of near lines", valid.Check(c.draft(t)), valid.Defect{})
}

func TestNamed(t *testing.T) { // P12.5
	source := rand.New(rand.NewPCG(12, 6))
	for range 60 {
		d := someDraft(t, source)
		for i, list := range [][]int{d.Next, d.Left, d.Outer} {
			for k, right := range list {
				list[k] = right + 1 + source.IntN(9)
				expect(t, fmt.Sprint("Check after another number of ", text(d)), valid.Check(d), defect(valid.BadNext+i, k, right))
				list[k] = -2 - right
				if list[k] != right { // as for -1
					expect(t, fmt.Sprint("Check after another number of ", text(d)), valid.Check(d), defect(valid.BadNext+i, k, right))
				}
				list[k] = right
			}
		}
		expect(t, "Check of "+text(d), valid.Check(d), valid.Defect{})
	}
}

func TestMended(t *testing.T) { // P12.5: what Check names leads from vertices and edges to the right lists
	source := rand.New(rand.NewPCG(12, 7))
	for range 60 {
		right := someDraft(t, source)
		d := valid.Draft{V: right.V, E: right.E}
		for range len(right.Next) + len(right.Left) + len(right.Outer) {
			next := valid.Check(d)
			list := map[int]*[]int{valid.BadNext: &d.Next, valid.BadLeft: &d.Left, valid.BadOuter: &d.Outer}[next.Kind]
			expect(t, "where an element is missing", next.Index, len(*list))
			*list = append(*list, next.Other)
		}
		d.Inner, d.Alone = right.Inner, right.Alone
		expect(t, "the draft", text(d), text(right))
	}
}

func TestCrossed(t *testing.T) { // P12.6
	source := rand.New(rand.NewPCG(12, 8))
	crossed, kept := 0, 0
	for range 120 {
		right := someDraft(t, source)
		for _, e := range pairs(len(right.V)) {
			if source.IntN(len(right.V)) > 1 || slices.Contains(right.E, e) {
				continue
			}
			d := clone(right)
			d.E = append(d.E, e)
			sortEdges(d.E)
			want := crossing(d)
			got := valid.Check(d)
			expect(t, "whether an edge of "+text(d)+" is crossed", got.Kind == valid.BadCross, want.Kind == valid.BadCross)
			if want.Kind == valid.BadCross {
				expect(t, "Check of "+text(d), got, want)
				crossed++
			} else {
				expect(t, "Check of "+text(d), got, defectOf(d))
				kept++
			}
		}
	}
	if crossed < 300 || kept < 60 {
		t.Errorf("only %d edges cross others, and %d do not", crossed, kept)
	}
}

func TestEuler(t *testing.T) { // P12.7
	source := rand.New(rand.NewPCG(12, 9))
	bounded := 0
	for range 300 {
		d := someDraft(t, source)
		expect(t, "Check of "+text(d), valid.Check(d), valid.Defect{})
		components := 0
		for v, least := range modelOf(d).least {
			if v == least {
				components++
			}
		}
		expect(t, "the number of faces of "+text(d), len(d.Outer), len(d.E)-len(d.V)+components+1)
		bounded += len(d.Outer) - 1
	}
	if bounded < 500 {
		t.Errorf("only %d bounded faces", bounded)
	}
}

func TestScaled(t *testing.T) { // P12.8
	source := rand.New(rand.NewPCG(12, 10))
	kinds := map[int]int{}
	for range 700 {
		d := someDraft(t, source)
		if source.IntN(3) > 0 {
			d = scatter(source)
		}
		for i, p := range d.V { // where fractions were, others cross now
			d.V[i].X, d.V[i].Y = point.Of(rounded(p)).X, point.Of(rounded(p)).Y
		}
		if source.IntN(3) == 0 {
			d = changed(source, d)
		}
		whole := !slices.ContainsFunc(d.V, func(p point.P) bool { _, whole := point.Whole(p); return !whole })
		if !whole {
			continue
		}
		want := valid.Check(d)
		expect(t, "Check of "+text(d), want, defectOf(d))
		kinds[want.Kind]++
		k := []int{1, 2, 3, 1000, most / 64}[source.IntN(5)]
		rest := most - 32*k
		far := moved(t, d, k, source.IntN(2*rest+1)-rest, source.IntN(2*rest+1)-rest)
		expect(t, "Check of "+text(d)+" when it is scaled", valid.Check(far), want)
	}
	for _, kind := range []int{valid.None, valid.BadVertex, valid.BadEdge, valid.BadCross, valid.BadNext} {
		if kinds[kind] < 8 {
			t.Errorf("only %d drafts have a defect of the kind %d", kinds[kind], kind)
		}
	}
}

// rounded returns the point of the grid that is nearest to another one.
func rounded(p point.P) api.Point {
	q, _ := point.Round(p)
	return q
}
