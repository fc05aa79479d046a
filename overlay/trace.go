package overlay

import (
	"slices"

	"meresman/api"
	"meresman/arrange"
	"meresman/faces"
	"meresman/locate"
	"meresman/point"
)

// The points of this file have numbers so small that no function that is called with them can fail.

// finder tells where a point lies in a map.
type finder func(point.P) (locate.Spot, api.Errno)

// traced returns the overlay with an arrangement, of maps with their arrangements.
func traced(a arrange.Arr, maps []arrange.Arr) Over {
	var finders []finder
	for _, m := range maps {
		_, l := located(m)
		finders = append(finders, l.Find)
	}
	f, l := located(a)
	o := Over{Arr: a, Faces: f}
	for face := range f.Outer {
		p, _ := l.Inside(face)
		o.Face = append(o.Face, facesOf(finders, p))
	}
	owner := owners(maps)
	for _, edge := range a.E {
		o.Edge = append(o.Edge, edgesOf(finders, owner, a, edge))
	}
	return o
}

// located returns the faces of an arrangement, and a locator for it.
func located(a arrange.Arr) (faces.Faces, *locate.Locator) {
	f, _ := faces.New(a)
	l, _ := locate.New(a, f)
	return f, l
}

// owners returns for each segment of the overlay the map from which it comes.
func owners(maps []arrange.Arr) []int {
	var list []int
	for i, m := range maps {
		list = append(list, slices.Repeat([]int{i}, len(m.Segs))...)
	}
	return list
}

// facesOf returns for each map the face in which a point lies that lies in a face of the overlay, and so on no border of a map.
func facesOf(finders []finder, p point.P) []int {
	var list []int
	for _, find := range finders {
		spot, _ := find(p)
		list = append(list, spot.Index)
	}
	return list
}

// edgesOf returns for each map the edge on which an edge of the overlay lies, or none.
func edgesOf(finders []finder, owner []int, a arrange.Arr, edge arrange.Edge) []int {
	const none = -1
	list := slices.Repeat([]int{none}, len(finders))
	middle, _ := point.Mid(a.V[edge.A], a.V[edge.B])
	// Only the maps of these segments are asked, each once: in all others, the middle lies on no edge.
	for _, s := range edge.Of {
		if m := owner[s]; list[m] == none {
			spot, _ := finders[m](middle)
			list[m] = spot.Index
		}
	}
	return list
}
