package faces_test

import (
	"fmt"
	"math/rand/v2"
	"slices"
	"testing"

	"meresman/api"
	"meresman/arrange"
	"meresman/faces"
)

// someCharts yields charts of both kinds.
func someCharts(yield func(chart) bool) {
	source := rand.New(rand.NewPCG(9, 6))
	for range 200 {
		if !yield(tangle(source)) || !yield(islands(source)) {
			return
		}
	}
}

func TestEuler(t *testing.T) { // P9.6
	for c := range someCharts {
		a := newArr(t, c)
		components := slices.Compact(slices.Sorted(slices.Values(modelOf(a).least)))
		expect(t, "the number of faces", len(newFaces(t, c).Outer), len(a.E)-len(a.V)+len(components)+1)
	}
}

func TestCycles(t *testing.T) { // P9.7
	for c := range someCharts {
		a := newArr(t, c)
		f := newFaces(t, c)
		seen := make([]bool, len(f.Next))
		for h, next := range f.Next {
			if f.Left[h] != f.Left[next] || seen[next] {
				t.Fatalf("the half-edges %d and %d have the faces %d and %d; before %d comes another one: %v", h, next, f.Left[h], f.Left[next], next, seen[next])
			}
			seen[next] = true
		}
		of := map[int]int{} // of each least half-edge of a cycle, the face
		for face := range f.Outer {
			firsts := slices.Clone(f.Inner[face])
			if face > 0 {
				firsts = append(firsts, f.Outer[face])
			}
			for _, first := range firsts {
				if _, known := of[first]; known || f.Left[first] != face {
					t.Fatalf("the cycle of %d is one of the face %d and of another one", first, face)
				}
				of[first] = face
			}
		}
		for h, first := range modelOf(a).first {
			face, known := of[first]
			expect(t, "the face of a cycle", fmt.Sprint(face, known), fmt.Sprint(f.Left[h], true))
		}
		checkAlone(t, a, f)
	}
}

// checkAlone checks that each isolated vertex lies in just one face.
func checkAlone(t *testing.T, a arrange.Arr, f faces.Faces) {
	t.Helper()
	var isolated []int
	for v := range a.V {
		if list, _ := arrange.Around(a, v); len(list) == 0 {
			isolated = append(isolated, v)
		}
	}
	expect(t, "the isolated vertices", fmt.Sprint(slices.Sorted(slices.Values(slices.Concat(f.Alone...)))), fmt.Sprint(isolated))
}

func TestAreas(t *testing.T) { // P9.8
	for c := range someCharts {
		f := newFaces(t, c)
		m := modelOf(newArr(t, c))
		for face, h := range f.Outer {
			if face > 0 && m.area(m.cycle(h)).Sign() <= 0 {
				t.Fatalf("the outer cycle of the face %d of %v does not lead around it counterclockwise", face, c)
			}
			for _, h := range f.Inner[face] {
				if m.area(m.cycle(h)).Sign() > 0 {
					t.Fatalf("the outside cycle of %d of %v leads around it counterclockwise", h, c)
				}
			}
		}
	}
}

func TestScaled(t *testing.T) { // P9.9
	source := rand.New(rand.NewPCG(9, 7))
	for c := range someCharts {
		c = moved(c, 1, -15, -15) // no coordinate is farther from 0 than 31
		f := newFaces(t, c)
		k := []int{1, 2, 3, 1000, most / 64, most / 31}[source.IntN(6)]
		rest := most - 31*k
		far := moved(c, k, source.IntN(2*rest+1)-rest, source.IntN(2*rest+1)-rest)
		expect(t, "the faces of a scaled chart", faces.Equal(f, newFaces(t, far)), true)
	}
}

func TestMutual(t *testing.T) { // P9.10
	for c := range someCharts {
		f := newFaces(t, c)
		for face := range f.Outer {
			list, e := faces.Neighbours(f, face)
			expect(t, "Neighbours", e, api.OK)
			var want []int
			for h := 0; h < len(f.Left); h += 2 {
				for _, pair := range [][2]int{{f.Left[h], f.Left[h+1]}, {f.Left[h+1], f.Left[h]}} {
					if pair[0] == face && pair[1] != face && !slices.Contains(want, pair[1]) {
						want = append(want, pair[1])
					}
				}
			}
			slices.Sort(want)
			expect(t, "Neighbours", fmt.Sprint(list), fmt.Sprint(want))
			for _, other := range list {
				back, _ := faces.Neighbours(f, other)
				expect(t, "whether neighbours are mutual", slices.Contains(back, face), true)
			}
		}
	}
}
