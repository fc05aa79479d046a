package snap_test

import (
	"fmt"
	"math/big"
	"math/rand/v2"
	"slices"
	"testing"

	"meresman/api"
	"meresman/point"
	"meresman/snap"
)

func TestTurnsAfterMoves(t *testing.T) { // P13.6
	source := rand.New(rand.NewPCG(13, 20))
	moved := 0
	for range 1500 {
		d, choose := anyPlanar(source)
		want, _ := snap.Turns(d)
		for range 8 { // one after the other
			v := source.IntN(len(d.V))
			to := goal(source, d, v, choose)
			if moves, _ := snap.Moves(d, v, to); !moves {
				continue
			}
			before := text(d)
			d.V[v] = to
			got, e := snap.Turns(d)
			expect(t, fmt.Sprintf("Turns after a move of %d to %s in %s", v, pointText(to), before), fmt.Sprint(got, e), fmt.Sprint(want, api.OK))
			moved++
		}
	}
	if moved < 3000 {
		t.Errorf("only %d moves", moved)
	}
}

func TestRounded(t *testing.T) { // P13.7
	source := rand.New(rand.NewPCG(13, 21))
	half := big.NewRat(1, 2)
	left := 0
	for range 600 {
		d := planar(source, anyPlaces(source), 1+source.IntN(14), source.IntN(30))
		round, stuck, e := snap.Round(d)
		expect(t, "Round", e, api.OK)
		name := text(d) + " that is rounded to " + text(round)
		expect(t, name, snap.Valid(round), api.OK)
		expect(t, "the edges of "+name, slices.Equal(round.E, d.E), true)
		before, _ := snap.Turns(d)
		after, _ := snap.Turns(round)
		expect(t, "the turns of "+name, fmt.Sprint(after), fmt.Sprint(before))
		expect(t, "the order of those that were not moved", slices.IsSorted(stuck) && len(slices.Compact(slices.Clone(stuck))) == len(stuck), true)
		again, _, _ := snap.Round(round)
		for v, p := range d.V {
			_, whole := point.Whole(p)
			_, now := point.Whole(round.V[v])
			named := slices.Contains(stuck, v)
			stays := point.Compare(round.V[v], p) == 0
			expect(t, fmt.Sprint("the vertex ", v, " of ", name), now && stays == whole && !named || named && stays && !whole, true)
			x, y := ratOf(less(p.X, round.V[v].X)), ratOf(less(p.Y, round.V[v].Y))
			expect(t, fmt.Sprint("how far the vertex ", v, " was moved in ", name), x.Abs(x).Cmp(half) <= 0 && y.Abs(y).Cmp(half) <= 0, true)
			if !named {
				expect(t, fmt.Sprint("the vertex ", v, " after Round again of ", name), pointText(again.V[v]), pointText(round.V[v]))
			}
		}
		left += len(stuck)
	}
	if left < 300 {
		t.Errorf("only %d vertices were not moved", left)
	}
}

func TestBack(t *testing.T) { // P13.8
	source := rand.New(rand.NewPCG(13, 22))
	moved := 0
	for range 3000 {
		d, choose := anyPlanar(source)
		v := source.IntN(len(d.V))
		from, to := d.V[v], goal(source, d, v, choose)
		if moves, _ := snap.Moves(d, v, to); moves {
			d.V[v] = to
			back, e := snap.Moves(d, v, from)
			expect(t, fmt.Sprintf("Moves of %d back to %s in %s", v, pointText(from), text(d)), fmt.Sprint(back, e), fmt.Sprint(true, api.OK))
			moved++
		}
	}
	if moved < 1000 {
		t.Errorf("only %d moves", moved)
	}
}

func TestScaled(t *testing.T) { // P13.9
	source := rand.New(rand.NewPCG(13, 23))
	found := map[string]int{}
	for range 2500 {
		choose := []places{grid, halves, tiny}[source.IntN(3)]
		d := planar(source, choose, 1+source.IntN(9), source.IntN(16))
		if source.IntN(4) == 0 {
			d = tangle(source, choose)
		}
		v := source.IntN(len(d.V)+2) - 1
		to := choose(source)
		k := []int{2, 3, 12, 1000, most / 12}[source.IntN(5)]
		scaled := clone(d)
		for i, p := range d.V {
			scaled.V[i] = multiplied(p, k)
		}
		results := func(d snap.Drawing, to point.P) string {
			moves, e := snap.Moves(d, v, to)
			turns, e2 := snap.Turns(d)
			return fmt.Sprint(snap.Valid(d), moves, e, turns, e2)
		}
		want := results(d, to)
		expect(t, fmt.Sprintf("Valid, Moves and Turns of %s and %s, multiplied by %d", text(d), pointText(to), k), results(scaled, multiplied(to, k)), want)
		found[want[:min(len(want), 6)]]++
	}
	if found["0 true"] < 300 || found["0 fals"] < 300 || found["10 fal"] < 100 {
		t.Errorf("only %v", found)
	}
}
