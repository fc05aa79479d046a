package overlay_test

import (
	"fmt"
	"math/rand/v2"
	"slices"
	"testing"

	"meresman/api"
	"meresman/arrange"
	"meresman/faces"
	"meresman/locate"
	"meresman/overlay"
	"meresman/point"
)

func TestPoints(t *testing.T) { // P11.4
	source := rand.New(rand.NewPCG(11, 4))
	for i := range 100 {
		maps := someMaps(source)
		var points []api.Point
		for k := range 19 * 19 {
			points = append(points, xy(k/19-1, k%19-1))
		}
		if i%2 == 0 {
			maps = steepMaps(source)
			for range 50 {
				points = append(points, xy(source.IntN(2*most)-most, source.IntN(2*most)-most))
			}
			for _, s := range joined(maps...).Segs {
				points = append(points, s.A, s.B)
			}
		}
		o := checkNew(t, maps...)
		whole := locator(t, joined(maps...))
		for k, m := range maps {
			own := locator(t, m)
			for _, p := range points {
				face, e := own.Face(p)
				wholeFace, wholeError := whole.Face(p)
				expect(t, "the errors of Face", [2]api.Errno{e, wholeError}, [2]api.Errno{})
				expect(t, "the face of a point in a map", o.Face[wholeFace][k], face)
			}
		}
	}
}

func TestSides(t *testing.T) { // P11.5
	source := rand.New(rand.NewPCG(11, 5))
	for i := range 160 {
		maps := someMaps(source)
		if i%4 == 0 {
			maps = steepMaps(source)
		}
		checkSides(t, checkNew(t, maps...), maps)
	}
}

// checkSides checks the faces to both sides of each edge, and that these cannot be others.
func checkSides(t *testing.T, o overlay.Over, maps []overlay.Layer) {
	t.Helper()
	for k, m := range maps {
		a, _ := arrange.New(m.Segs, m.Points)
		f, _ := faces.New(a)
		used := map[int]bool{}
		for i, on := range o.Edge {
			left, right := o.Face[o.Faces.Left[2*i]][k], o.Face[o.Faces.Left[2*i+1]][k]
			edge := on[k]
			if edge == -1 {
				expect(t, "the face to the right of an edge that lies on none of the map", right, left)
				continue
			}
			used[edge] = true
			expect(t, "the faces to both sides of an edge", [2]int{left, right}, [2]int{f.Left[2*edge], f.Left[2*edge+1]})
			first, last := o.Arr.E[i].A, o.Arr.E[i].B
			from, to := a.V[a.E[edge].A], a.V[a.E[edge].B]
			expect(t, "whether an edge lies within an edge", point.Compare(from, o.Arr.V[first]) <= 0 && point.Compare(o.Arr.V[last], to) <= 0, true)
			expect(t, "the directions", o.Arr.E[i].Dir, a.E[edge].Dir)
		}
		expect(t, "the number of edges of a map on which some edge lies", len(used), len(a.E))
	}
}

func TestParts(t *testing.T) { // P11.6
	source := rand.New(rand.NewPCG(11, 6))
	for range 200 {
		maps := someMaps(source)
		o := checkNew(t, maps...)
		for k, m := range maps {
			var all []int
			own := modelOf(m)
			for face := range own.f.Outer {
				part, e := overlay.Part(o, k, face)
				expect(t, fmt.Sprint("the error of Part of ", k, face), e, api.OK)
				expect(t, "whether a part has faces, in increasing order", len(part) > 0 && slices.IsSorted(part), true)
				all = append(all, part...)
			}
			slices.Sort(all)
			for i, face := range all {
				expect(t, "a face of all parts", face, i)
			}
			expect(t, "the number of faces in all parts", len(all), len(o.Face))
			part, e := overlay.Part(o, k, len(own.f.Outer))
			expect(t, "Part of no face", fmt.Sprint(len(part), e), fmt.Sprint(0, api.ErrNone))
		}
	}
}

func TestAlone(t *testing.T) { // P11.7
	source := rand.New(rand.NewPCG(11, 7))
	for i := range 100 {
		m := someMap(source)
		if i%3 == 0 {
			m = moved(m, most/32, xy(-most/2, most/2))
		}
		own := modelOf(m)
		for n := 1; n <= 1+i%16; n += 3 {
			o, e := overlay.New(slices.Repeat([]overlay.Layer{m}, n))
			expect(t, "the error of New", e, api.OK)
			expect(t, "whether the faces are equal", faces.Equal(o.Faces, own.f), true)
			expect(t, "the numbers of vertices and edges", fmt.Sprint(len(o.Arr.V), len(o.Arr.E)), fmt.Sprint(len(own.a.V), len(own.a.E)))
			for k, edge := range own.a.E {
				same := o.Arr.E[k]
				expect(t, "an edge", fmt.Sprint(same.A, same.B, same.Dir), fmt.Sprint(edge.A, edge.B, edge.Dir))
			}
			checkOwn(t, o, n)
		}
	}
}

// checkOwn checks that each face and edge lies in the face and on the edge of each map that has its number.
func checkOwn(t *testing.T, o overlay.Over, n int) {
	t.Helper()
	for _, lists := range [][][]int{o.Face, o.Edge} {
		for i, list := range lists {
			expect(t, "a list", fmt.Sprint(list), fmt.Sprint(slices.Repeat([]int{i}, n)))
		}
	}
}

func TestExchanged(t *testing.T) { // P11.7
	source := rand.New(rand.NewPCG(11, 8))
	for range 120 {
		maps := someMaps(source)
		order := source.Perm(len(maps))
		var others []overlay.Layer
		for _, k := range order {
			others = append(others, maps[k])
		}
		o, other := checkNew(t, maps...), checkNew(t, others...)
		expect(t, "whether the faces are equal", faces.Equal(o.Faces, other.Faces), true)
		for _, lists := range [][2][][]int{{o.Face, other.Face}, {o.Edge, other.Edge}} {
			for i, list := range lists[0] {
				var exchanged []int
				for _, k := range order {
					exchanged = append(exchanged, list[k])
				}
				expect(t, "a list after an exchange of maps", fmt.Sprint(lists[1][i]), fmt.Sprint(exchanged))
			}
		}
	}
}

func TestFiner(t *testing.T) { // P11.8
	source := rand.New(rand.NewPCG(11, 9))
	coarser := 0
	for i := range 150 {
		maps := someMaps(source)
		if i%3 == 0 {
			maps = steepMaps(source)
		}
		n := len(maps)
		o, e := overlay.New(append(maps, joined(maps...), joined(maps[n/2:]...)))
		expect(t, "the error of New", e, api.OK)
		for k := range n {
			finer, e := overlay.Finer(o, n, k)
			expect(t, "whether the overlay is finer", fmt.Sprint(finer, e), fmt.Sprint(true, api.OK))
			if back, _ := overlay.Finer(o, k, n); !back {
				coarser++
			}
		}
		for k := n / 2; k < n; k++ {
			finer, _ := overlay.Finer(o, n+1, k)
			expect(t, "whether the overlay of some maps is finer", finer, true)
		}
		finer, _ := overlay.Finer(o, n, n+1)
		expect(t, "whether the overlay of all maps is finer than that of some", finer, true)
	}
	if coarser < 50 {
		t.Errorf("only %d maps are coarser than the overlay", coarser)
	}
}

func locator(t *testing.T, m overlay.Layer) *locate.Locator {
	t.Helper()
	a, _ := arrange.New(m.Segs, m.Points)
	f, _ := faces.New(a)
	l, e := locate.New(a, f)
	expect(t, "locate.New", e, api.OK)
	return l
}
