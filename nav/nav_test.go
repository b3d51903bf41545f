package nav

import (
	"math"
	"math/rand/v2"
	"slices"
	"strings"
	"sync"
	"testing"

	"adit/api"
	"adit/gen"
	"adit/grid"
)

// place is a column and a row, whether a cell is there or not.
type place struct{ x, y int }

// ways are the four, in their order, with their steps as W1 and chapter 1 say them.
var ways = []struct{ way, dx, dy int }{{api.North, 0, -1}, {api.East, 1, 0}, {api.South, 0, 1}, {api.West, -1, 0}}

// floor is drawn by rows of signs: # . + < > $; what is not drawn is wall.
func floor(rows ...string) []byte {
	cells := make([]byte, api.Cells)
	for y, row := range rows {
		for x, sign := range []byte(row) {
			cells[y*24+x] = byte(strings.IndexByte("#.+<>$", sign))
		}
	}
	return cells
}

// open is a floor without walls.
func open() []byte { return slices.Repeat([]byte{api.CFloor}, api.Cells) }

func at(x, y int) int { return y*24 + x }

// crowd is a list of MaxEnts rows with an entity at each of some places, free rows between them.
func crowd(places ...place) []api.Ent {
	l := make([]api.Ent, api.MaxEnts)
	for i, p := range places {
		l[(5*i+3)%api.MaxEnts] = api.Ent{Kind: 1 + i%4, Seat: i % 4, X: p.x, Y: p.y}
	}
	return l
}

// noCells are places beside the floor and far from it, and such as would be a cell's by their number alone.
var noCells = []place{
	{-1, 0}, {0, -1}, {-1, -1}, {24, 0}, {0, 16}, {24, 16}, {24, 15}, {23, 16}, {-1, 1}, {-24, 1}, {24, -1}, {48, -2}, {-1, 16}, {5, -16}, {-19, 3},
	{25, 0}, {383, 0}, {384, 0}, {0, 384}, {1 << 32, 0}, {0, 1 << 32}, {5 + 1<<32, 5}, {5, 5 + 1<<32}, {0, 1 << 61}, {5, 5 + 1<<61}, {5, 5 - 1<<61}, {8, 1 << 60}, {1 << 53, 1}, {1<<53 + 1, 1},
	{math.MinInt, 0}, {0, math.MinInt}, {math.MaxInt, 0}, {0, math.MaxInt}, {math.MinInt, math.MinInt}, {math.MaxInt, math.MaxInt}, {math.MinInt, math.MaxInt}, {math.MinInt + 5, 5}, {5, math.MinInt + 5},
}

// noTargets are numbers that are no cell's.
var noTargets = []int{-1, -2, -24, -25, -384, 384, 385, 999, 1 << 31, 1 << 32, 5 + 1<<32, math.MinInt, math.MinInt + 5, math.MaxInt}

// Beside.

// ends are numbers at both ends of their range, around 0, and around those from which on a float has not every whole number.
func ends() []int {
	var l []int
	for _, n := range []int{math.MinInt, -1 << 62, -1 << 53, -1 << 32, 0, 1 << 31, 1 << 53, 1<<54 + 2, 1 << 62, math.MaxInt} {
		for d := -2; d <= 2; d++ {
			l = append(l, n+d) // goes round, on purpose
		}
	}
	return l
}

func TestBesideEachWay(t *testing.T) {
	for _, x := range append(ends(), 3, 5, 23, 24) {
		for _, y := range append(ends(), 3, 7, 15, 16) {
			for _, w := range ways {
				// The sums go round at both ends, as P601 asks.
				if got := Beside(x, y, x+w.dx, y+w.dy); got != w.way {
					t.Fatalf("P601: from (%d, %d) by (%d, %d): %d, not %d", x, y, w.dx, w.dy, got, w.way)
				}
			}
			for _, d := range []place{
				{0, 0}, {0, -2}, {2, 0}, {0, 2}, {-2, 0}, {0, 3}, {-3, 0}, // the same place, and more than a step
				{1, 1}, {1, -1}, {-1, 1}, {-1, -1}, {1, 2}, {2, 1}, {-1, 2}, {2, -1}, // aslant
				{24, 0}, {0, 24}, {1 << 32, 0}, {1 + 1<<32, 0}, {0, 1 + 1<<32}, {1, 1 << 32}, {1 << 32, 1},
				{math.MinInt, 0}, {0, math.MinInt}, {math.MaxInt, 0}, {0, math.MaxInt}, {math.MinInt + 1, 0}, {1, math.MinInt}, {math.MinInt, 1}, {1<<53 + 1, 0}, {0, 1<<53 + 1},
			} {
				if got := Beside(x, y, x+d.x, y+d.y); got != api.Stay {
					t.Fatalf("P601: from (%d, %d) by (%d, %d): %d, not Stay", x, y, d.x, d.y, got)
				}
			}
		}
	}
}

func TestBesideWhereAStepGoesRound(t *testing.T) {
	for _, x := range []struct{ x0, y0, x1, y1, want int }{
		{3, 3, 4, 3, api.East}, // the chapter's example
		{math.MaxInt, 7, math.MinInt, 7, api.East},
		{math.MinInt, 7, math.MaxInt, 7, api.West},
		{7, math.MaxInt, 7, math.MinInt, api.South},
		{7, math.MinInt, 7, math.MaxInt, api.North},
		{math.MaxInt, math.MinInt, math.MinInt, math.MinInt, api.East},
		{math.MaxInt, math.MinInt, math.MaxInt, math.MaxInt, api.North},
		{math.MaxInt, math.MaxInt, math.MinInt, math.MinInt, api.Stay},
		{math.MinInt, math.MinInt, math.MaxInt, math.MaxInt, api.Stay},
		{math.MinInt, 0, math.MaxInt - 1, 0, api.Stay},
		{math.MaxInt - 1, 0, math.MinInt, 0, api.Stay},
		{0, 0, math.MinInt, 0, api.Stay},
		{math.MinInt, 0, 0, 0, api.Stay},
	} {
		if got := Beside(x.x0, x.y0, x.x1, x.y1); got != x.want {
			t.Errorf("P601: %+v: %d", x, got)
		}
	}
}

// TestBesideOfAllCells: cells at the ends of two rows follow each other by their numbers, but are not side by side.
func TestBesideOfAllCells(t *testing.T) {
	for a := range api.Cells {
		for b := range api.Cells {
			want := api.Stay
			for _, w := range ways {
				if a%24+w.dx == b%24 && a/24+w.dy == b/24 {
					want = w.way
				}
			}
			if got := Beside(a%24, a/24, b%24, b/24); got != want {
				t.Fatalf("P601: from cell %d to cell %d: %d, not %d", a, b, got, want)
			}
		}
	}
}

// Toward.

func TestToward(t *testing.T) {
	cells := floor(
		"....#...",
		".##..#.#",
		"......+.",
	)
	for _, x := range []struct {
		what    string
		from    place
		l       []api.Ent
		targets []int
		want    int
	}{
		{"to the north", place{3, 1}, crowd(), []int{at(3, 0)}, api.North},
		{"to the east", place{3, 1}, crowd(), []int{at(4, 1)}, api.East},
		{"to the south", place{3, 1}, crowd(), []int{at(3, 2)}, api.South},
		{"to the west", place{4, 1}, crowd(), []int{at(3, 1)}, api.West},
		{"over a corner", place{0, 0}, crowd(), []int{at(2, 2)}, api.South},
		{"the other way about", place{2, 2}, crowd(), []int{at(0, 0)}, api.West},
		{"through a door", place{5, 2}, crowd(), []int{at(7, 2)}, api.East},

		{"on a wall", place{4, 0}, crowd(), []int{at(3, 0)}, api.Stay},
		{"on a wall that is a target", place{4, 0}, crowd(), []int{at(4, 0)}, api.Stay},
		{"on a target", place{3, 1}, crowd(), []int{at(3, 1)}, api.Stay},
		{"on one target of several", place{3, 1}, crowd(), []int{at(3, 0), at(3, 1)}, api.Stay},
		{"on a target with others around", place{3, 1}, crowd(place{3, 1}), []int{at(3, 1), at(0, 0)}, api.Stay},

		{"no target", place{3, 1}, crowd(), nil, api.Stay},
		{"a target that is a wall", place{3, 0}, crowd(), []int{at(4, 0)}, api.Stay},
		{"walls, and one that is none", place{3, 1}, crowd(), []int{at(4, 0), at(2, 1), at(3, 2), at(5, 1)}, api.South},
		{"targets that no way leads to", place{4, 1}, crowd(place{4, 2}), []int{at(0, 5), at(23, 15)}, api.Stay},
		{"the nearest of several", place{0, 0}, crowd(), []int{at(0, 2), at(1, 0), at(7, 2)}, api.East},
		{"the nearest of several, named last", place{0, 0}, crowd(), []int{at(7, 2), at(3, 0), at(0, 1)}, api.South},
		{"the same one twice", place{0, 0}, crowd(), []int{at(0, 2), at(0, 2)}, api.South},
		{"several as near: by the ways' order", place{3, 1}, crowd(), []int{at(3, 2), at(4, 1), at(3, 0)}, api.North},
		{"several as near: by the ways' order", place{3, 1}, crowd(), []int{at(3, 2), at(4, 1)}, api.East},
		{"several as near: by the ways' order", place{2, 2}, crowd(), []int{at(1, 2), at(3, 2)}, api.East},
		{"several as near: by the ways' order", place{0, 1}, crowd(), []int{at(0, 2), at(0, 0)}, api.North},
		{"two ways as short", place{3, 1}, crowd(), []int{at(4, 2)}, api.East},
		{"two ways as short", place{4, 2}, crowd(), []int{at(3, 1)}, api.North},
		{"two ways as short", place{3, 2}, crowd(), []int{at(4, 1)}, api.North},
		{"two ways as short", place{4, 1}, crowd(), []int{at(3, 2)}, api.South},

		{"an entity on the target, beside it", place{3, 1}, crowd(place{3, 0}), []int{at(3, 0)}, api.Stay},
		{"an entity on the target, two steps away", place{1, 0}, crowd(place{3, 0}), []int{at(3, 0)}, api.East},
		{"an entity on one of two targets", place{3, 1}, crowd(place{3, 0}), []int{at(3, 0), at(3, 2)}, api.South},
		{"an entity on the nearer target: its number is the least still", place{2, 0}, crowd(place{3, 0}), []int{at(3, 0), at(0, 0)}, api.Stay},
		{"two on both targets", place{3, 1}, crowd(place{3, 0}, place{3, 2}), []int{at(3, 0), at(3, 2)}, api.Stay},
		{"an entity at (x, y)", place{3, 1}, crowd(place{3, 1}), []int{at(4, 1)}, api.East},
		{"two entities at (x, y)", place{3, 1}, crowd(place{3, 1}, place{3, 1}), []int{at(3, 0)}, api.North},
		{"an entity in the only way", place{5, 2}, crowd(place{6, 2}), []int{at(7, 2)}, api.Stay},
		{"an entity in the only way, further on", place{3, 2}, crowd(place{5, 2}), []int{at(7, 2)}, api.Stay},
		{"an entity in the short way", place{0, 0}, crowd(place{1, 0}), []int{at(3, 0)}, api.South},
		{"an entity in the short way, further on", place{1, 0}, crowd(place{2, 0}), []int{at(3, 0)}, api.West},
		{"entities in both ways", place{0, 0}, crowd(place{2, 0}, place{0, 2}), []int{at(3, 0)}, api.Stay},
		{"an entity on one of two ways as short", place{3, 1}, crowd(place{4, 1}), []int{at(4, 2)}, api.South},
		{"an entity on the other of two ways as short", place{3, 1}, crowd(place{3, 2}), []int{at(4, 2)}, api.East},
		{"entities on both ways as short", place{3, 2}, crowd(place{4, 2}, place{3, 1}), []int{at(4, 1)}, api.Stay},
		{"an entity at (x, y) and one on a way", place{3, 1}, crowd(place{4, 1}, place{3, 1}), []int{at(4, 2)}, api.South},
		{"entities elsewhere", place{3, 1}, crowd(place{0, 0}, place{7, 2}, place{4, 0}), []int{at(4, 2)}, api.East},
	} {
		if got := Toward(cells, x.l, x.from.x, x.from.y, x.targets...); got != x.want {
			t.Errorf("P602: %s: from %v to %v: %d, not %d", x.what, x.from, x.targets, got, x.want)
		}
	}
}

func TestTowardOverEachKindOfCell(t *testing.T) {
	for kind := range 256 {
		cells := floor("...")
		cells[1] = byte(kind)
		through, into, from := api.Stay, api.Stay, api.Stay
		if kind >= api.CFloor && kind <= api.CShop {
			through, into, from = api.East, api.East, api.West
		}
		if got := Toward(cells, nil, 0, 0, 2); got != through {
			t.Errorf("P602, P604: through kind %d: %d", kind, got)
		}
		if got := Toward(cells, nil, 0, 0, 1); got != into {
			t.Errorf("P602, P604: into kind %d: %d", kind, got)
		}
		if got := Toward(cells, nil, 1, 0, 0); got != from {
			t.Errorf("P602: from kind %d: %d", kind, got)
		}
	}
}

func TestTowardFromNoCell(t *testing.T) {
	all := make([]int, api.Cells)
	for i := range all {
		all[i] = i
	}
	for _, p := range noCells {
		for _, targets := range [][]int{nil, {0}, {at(5, 5)}, {at(23, 0)}, {at(0, 1)}, {at(23, 15)}, {-1}, {384}, all} {
			if got := Toward(open(), crowd(p), p.x, p.y, targets...); got != api.Stay {
				t.Errorf("P602: from %v, which is no cell: %d", p, got)
			}
		}
	}
}

// TestTowardAtTheEdges: the last cell of a row and the first of the next one are not side by side.
func TestTowardAtTheEdges(t *testing.T) {
	cells := make([]byte, api.Cells)
	cells[at(23, 4)], cells[at(0, 5)], cells[at(23, 15)], cells[at(0, 0)] = api.CFloor, api.CFloor, api.CFloor, api.CFloor
	for _, x := range []struct {
		from   place
		target int
	}{{place{23, 4}, at(0, 5)}, {place{0, 5}, at(23, 4)}, {place{23, 15}, 0}, {place{0, 0}, at(23, 15)}} {
		if got := Toward(cells, nil, x.from.x, x.from.y, x.target); got != api.Stay {
			t.Errorf("P602: from %v to cell %d: %d", x.from, x.target, got)
		}
	}
	for _, x := range []struct {
		from   place
		target int
		want   int
	}{
		{place{0, 0}, at(23, 15), api.East}, {place{23, 0}, at(0, 15), api.South}, {place{0, 15}, at(23, 0), api.North}, {place{23, 15}, at(0, 0), api.North},
		{place{0, 7}, at(23, 6), api.North}, {place{23, 7}, at(0, 8), api.South}, {place{23, 7}, at(0, 7), api.West}, {place{0, 7}, at(23, 7), api.East},
	} {
		if got := Toward(open(), nil, x.from.x, x.from.y, x.target); got != x.want {
			t.Errorf("P602: from %v to cell %d: %d, not %d", x.from, x.target, got, x.want)
		}
	}
}

func TestTowardPassesOverTargetsThatAreNone(t *testing.T) {
	for _, none := range noTargets {
		if got := Toward(open(), nil, 5, 5, none); got != api.Stay {
			t.Errorf("P602: to %d, which is no cell: %d", none, got)
		}
		if got := Toward(open(), nil, 5, 5, none, at(5, 9), none); got != api.South {
			t.Errorf("P602: to %d, which is no cell, and one that is: %d", none, got)
		}
	}
	if got := Toward(open(), nil, 5, 5, append(slices.Clone(noTargets), at(0, 5))...); got != api.West {
		t.Errorf("P602: to many that are none, and one that is: %d", got)
	}
}

func TestTowardWithTooFewCells(t *testing.T) {
	for _, n := range []int{0, 1, 24, 25, 26, 48, 383} {
		cells := open()[:n]
		for _, p := range []place{{0, 0}, {1, 0}, {23, 0}, {0, 1}, {1, 1}, {23, 15}, {22, 15}, {23, 14}} {
			want := toward(cells, nil, p.x, p.y, []int{0, n - 1, n})
			if got := Toward(cells, nil, p.x, p.y, 0, n-1, n); got != want {
				t.Errorf("P602: %d cells, from %v: %d, not %d", n, p, got, want)
			}
		}
	}
	if Toward(nil, nil, 0, 0, 1) != api.Stay || Toward([]byte{}, crowd(), 0, 0, 1) != api.Stay || Toward(open()[:1], nil, 0, 0, 1) != api.Stay || Toward(open()[:2], nil, 0, 0, 1) != api.East || Toward(open()[:25], nil, 0, 0, 25) != api.Stay {
		t.Error("P602: cells that are too few are walls")
	}
	// What is spare room of the cells is none of them, nor is what lies behind the last one.
	if Toward(open()[:24], nil, 0, 0, 24) != api.Stay || Toward(append(open(), open()...), nil, 23, 15, 384) != api.Stay {
		t.Error("P602: cells behind the last one")
	}
	if got := Toward(append(open(), open()...), nil, 23, 15, 0); got != api.North {
		t.Errorf("P602: more cells than there are: %d", got)
	}
}

// Spot.

func TestSpot(t *testing.T) {
	cells := floor(
		"....#.",
		".##..#",
		".....#",
	)
	var everyone []place
	for y := range 3 {
		for x := range 5 {
			everyone = append(everyone, place{x, y})
		}
	}
	for _, x := range []struct {
		what string
		from place
		l    []api.Ent
		want int
	}{
		{"nobody there", place{0, 0}, crowd(), 0},
		{"nobody there, others around", place{3, 1}, crowd(place{3, 0}, place{4, 1}), at(3, 1)},
		{"an entity at (x, y)", place{0, 0}, crowd(place{0, 0}), at(1, 0)},
		{"two entities at (x, y)", place{0, 0}, crowd(place{0, 0}, place{0, 0}), at(1, 0)},
		{"several as near: the lowest", place{3, 1}, crowd(place{3, 1}), at(3, 0)},
		{"several as near: the lowest left", place{3, 1}, crowd(place{3, 1}, place{3, 0}), at(4, 1)},
		{"several as near: the last left", place{3, 1}, crowd(place{3, 1}, place{3, 0}, place{4, 1}), at(3, 2)},
		{"several as near, west ahead of east", place{2, 2}, crowd(place{2, 2}), at(1, 2)},
		{"a low one that is further on", place{0, 2}, crowd(place{0, 2}, place{0, 1}), at(1, 2)},
		{"two steps away", place{3, 1}, crowd(place{3, 1}, place{3, 0}, place{4, 1}, place{3, 2}), at(2, 0)},
		{"the way leads over others", place{0, 0}, crowd(place{0, 0}, place{1, 0}, place{0, 1}), at(2, 0)},
		{"further over others", place{0, 0}, crowd(place{0, 0}, place{1, 0}, place{0, 1}, place{2, 0}), at(0, 2)},
		{"all but one taken", place{0, 0}, crowd(append(slices.Clone(everyone[:14]), place{5, 0})...), at(4, 2)},
		{"all but one taken, that one low", place{4, 2}, crowd(everyone[1:]...), 0},
		{"every cell taken", place{0, 0}, crowd(everyone...), -1},
		{"every cell taken, from another", place{4, 2}, crowd(everyone...), -1},
		{"on a wall", place{4, 0}, crowd(), -1},
		{"on a wall, where an entity stands", place{4, 0}, crowd(place{4, 0}), -1},
		{"shut in", place{5, 0}, crowd(), at(5, 0)},
		{"shut in, taken", place{5, 0}, crowd(place{5, 0}), -1},
		{"the last row is wall", place{0, 15}, crowd(), -1},
	} {
		if got := Spot(cells, x.l, x.from.x, x.from.y); got != x.want {
			t.Errorf("P603: %s: from %v: %d, not %d", x.what, x.from, got, x.want)
		}
	}
}

func TestSpotFromNoCell(t *testing.T) {
	for _, p := range noCells {
		for _, l := range [][]api.Ent{nil, crowd(), crowd(p), crowd(place{0, 0}, place{5, 5})} {
			if got := Spot(open(), l, p.x, p.y); got != -1 {
				t.Errorf("P603: from %v, which is no cell: %d", p, got)
			}
		}
	}
}

func TestSpotOfEachCell(t *testing.T) {
	for cell := range api.Cells {
		x, y := cell%24, cell/24
		if got := Spot(open(), nil, x, y); got != cell {
			t.Fatalf("P603: from (%d, %d), nobody there: %d", x, y, got)
		}
		if got, want := Spot(open(), crowd(place{x, y}), x, y), spot(open(), crowd(place{x, y}), x, y); got != want {
			t.Fatalf("P603: from (%d, %d), taken: %d, not %d", x, y, got, want)
		}
		shut := make([]byte, api.Cells)
		shut[cell] = api.CDoor
		if Spot(shut, nil, x, y) != cell || Spot(shut, crowd(place{x, y}), x, y) != -1 {
			t.Fatalf("P603: from (%d, %d), walls around", x, y)
		}
	}
}

func TestSpotOnEachKindOfCell(t *testing.T) {
	for kind := range 256 {
		cells := floor("...")
		cells[1] = byte(kind)
		own, past := -1, -1
		if kind >= api.CFloor && kind <= api.CShop {
			own, past = 1, 2
		}
		if got := Spot(cells, nil, 1, 0); got != own {
			t.Errorf("P603: on kind %d: %d", kind, got)
		}
		if got := Spot(cells, crowd(place{0, 0}, place{1, 0}), 0, 0); got != past {
			t.Errorf("P603: past kind %d: %d", kind, got)
		}
	}
}

func TestSpotWithTooFewCells(t *testing.T) {
	for _, n := range []int{0, 1, 2, 24, 25, 383} {
		cells := open()[:n]
		for _, p := range []place{{0, 0}, {1, 0}, {0, 1}, {1, 1}, {23, 15}, {22, 15}} {
			for _, l := range [][]api.Ent{nil, crowd(p)} {
				if got, want := Spot(cells, l, p.x, p.y), spot(cells, l, p.x, p.y); got != want {
					t.Errorf("P603: %d cells, from %v: %d, not %d", n, p, got, want)
				}
			}
		}
	}
	if Spot(nil, nil, 0, 0) != -1 || Spot(open()[:1], crowd(place{0, 0}), 0, 0) != -1 || Spot(append(open(), open()...), crowd(place{23, 15}), 23, 15) != at(23, 14) {
		t.Error("P603: cells that are too few, and more than there are")
	}
}

// Lists.

// TestRowsThatAreFree: a free row may hold a place; nobody stands there.
func TestRowsThatAreFree(t *testing.T) {
	cells := floor("....")
	litter := api.Ent{Gen: 7, Seat: 1, X: 1, HP: 5, Max: 20, Atk: 1, Def: 1, Poison: 3, Stun: 2}
	l := slices.Repeat([]api.Ent{litter}, api.MaxEnts)
	if Toward(cells, l, 0, 0, 1) != api.East || Toward(cells, l, 0, 0, 3) != api.East {
		t.Error("P602: a free row stands in the way")
	}
	if Spot(cells, l, 1, 0) != 1 {
		t.Error("P603: a free row takes a cell")
	}
	// Where both a free row and an entity hold a place, whatever their order, someone stands.
	for _, row := range []int{0, 1, 15, 31} {
		l := slices.Clone(l)
		l[row].Kind = api.EOrc
		if Toward(cells, l, 0, 0, 1) != api.Stay || Toward(cells, l, 0, 0, 3) != api.Stay {
			t.Errorf("P602: an orc in row %d, free rows around, does not stand in the way", row)
		}
		if Spot(cells, l, 1, 0) != 0 {
			t.Errorf("P603: an orc in row %d, free rows around, takes no cell", row)
		}
	}
	// The zero row stands nowhere, not at (0, 0).
	if Toward(cells, crowd(), 1, 0, 0) != api.West || Spot(cells, crowd(), 0, 0) != 0 {
		t.Error("P602, P603: the zero row stands at (0, 0)")
	}
}

// TestEachKindStands: rows are taken as they are; only ENone is free.
func TestEachKindStands(t *testing.T) {
	for _, kind := range []int{api.EHero, api.ERat, api.EOrc, api.EMage, 5, -1, 256, 1 << 32, math.MinInt, math.MaxInt} {
		for _, hp := range []int{0, 5, -3} {
			l := crowd()
			l[9] = api.Ent{Kind: kind, X: 1, HP: hp}
			if Toward(floor("..."), l, 0, 0, 1) != api.Stay || Toward(floor("..."), l, 0, 0, 2) != api.Stay || Spot(floor("..."), l, 1, 0) != 0 {
				t.Errorf("P602, P603: kind %d with %d hit points does not stand", kind, hp)
			}
		}
	}
}

// TestEntitiesAtNoCell: they stand on none, whatever their number would be.
func TestEntitiesAtNoCell(t *testing.T) {
	l := crowd()
	for _, p := range noCells {
		l[4] = api.Ent{Kind: api.EOrc, X: p.x, Y: p.y}
		for cell := range api.Cells {
			if got := Spot(open(), l, cell%24, cell/24); got != cell {
				t.Fatalf("P603: an orc at %v takes cell %d", p, cell)
			}
		}
		for cell := 1; cell < 24; cell++ {
			if got := Toward(open(), l, cell, 0, cell-1); got != api.West {
				t.Fatalf("P602: an orc at %v stands on cell %d", p, cell-1)
			}
		}
		if got := Toward(open(), l, 5, 4, at(5, 5)); got != api.South {
			t.Fatalf("P602: an orc at %v stands on cell (5, 5)", p)
		}
	}
}

// TestFewAndManyRows: fewer than MaxEnts count as they are; of more the first MaxEnts, as ents has it.
func TestFewAndManyRows(t *testing.T) {
	cells := floor("....")
	for _, l := range [][]api.Ent{nil, {}, {{}}, crowd(place{1, 0})[:3]} {
		if Toward(cells, l, 0, 0, 1) != api.East || Spot(cells, l, 1, 0) != 1 {
			t.Errorf("P602, P603: %d rows, none taken", len(l))
		}
	}
	for _, n := range []int{1, 2, 5, 31, 32, 33, 64, 1000} {
		for _, row := range []int{0, 1, 4, 30, 31, 32, 33, 63, 999} {
			if row >= n {
				continue
			}
			l := make([]api.Ent, n)
			l[row] = api.Ent{Kind: api.EHero, X: 1}
			toward, spot := api.Stay, 0
			if row >= api.MaxEnts {
				toward, spot = api.East, 1
			}
			if got := Toward(cells, l, 0, 0, 1); got != toward {
				t.Errorf("P602: one in row %d of %d: %d", row, n, got)
			}
			if got := Spot(cells, l, 1, 0); got != spot {
				t.Errorf("P603: one in row %d of %d: %d", row, n, got)
			}
			// One that does not count takes nothing from one that does.
			l[0] = api.Ent{Kind: api.EOrc, X: 1}
			if Toward(cells, l, 0, 0, 1) != api.Stay || Spot(cells, l, 1, 0) != 0 {
				t.Errorf("P602, P603: one in row 0 and one in row %d of %d", row, n)
			}
		}
	}
}

// What the words say, gone through in the plainest way.

func isCell(x, y int) bool { return x >= 0 && x < 24 && y >= 0 && y < 16 }

func walkable(cells []byte, x, y int) bool {
	return isCell(x, y) && at(x, y) < len(cells) && cells[at(x, y)] >= 1 && cells[at(x, y)] <= 5
}

func someone(l []api.Ent, x, y int) bool {
	for i, e := range l {
		if i < api.MaxEnts && e.Kind != api.ENone && e.X == x && e.Y == y {
			return true
		}
	}
	return false
}

// steps are those to the nearest target: each cell's is lowered till none can be lowered any more.
func steps(cells []byte, targets []int, blocked func(x, y int) bool) []int {
	far := slices.Repeat([]int{-1}, api.Cells)
	for _, n := range targets {
		if n >= 0 && n < api.Cells && walkable(cells, n%24, n/24) {
			far[n] = 0
		}
	}
	for again := true; again; {
		again = false
		for cell := range far {
			x, y := cell%24, cell/24
			if far[cell] == 0 || !walkable(cells, x, y) || blocked(x, y) {
				continue
			}
			for _, w := range ways {
				if !isCell(x+w.dx, y+w.dy) {
					continue
				}
				if n := far[at(x+w.dx, y+w.dy)]; n >= 0 && (far[cell] < 0 || n+1 < far[cell]) {
					far[cell], again = n+1, true
				}
			}
		}
	}
	return far
}

func toward(cells []byte, l []api.Ent, x, y int, targets []int) int {
	far := steps(cells, targets, func(bx, by int) bool { return someone(l, bx, by) && (bx != x || by != y) })
	if !isCell(x, y) || far[at(x, y)] < 1 {
		return api.Stay
	}
	for _, w := range ways {
		nx, ny := x+w.dx, y+w.dy
		if isCell(nx, ny) && far[at(nx, ny)] == far[at(x, y)]-1 && !someone(l, nx, ny) {
			return w.way
		}
	}
	return api.Stay
}

func spot(cells []byte, l []api.Ent, x, y int) int {
	if !isCell(x, y) {
		return -1
	}
	far := steps(cells, []int{at(x, y)}, func(int, int) bool { return false })
	for n := range api.Cells {
		for cell := range far {
			if far[cell] == n && !someone(l, cell%24, cell/24) {
				return cell
			}
		}
	}
	return -1
}

// anyFloor is one of walls and all other kinds by chance, with so many walls of 10.
func anyFloor(r *rand.Rand, walls int) []byte {
	cells := make([]byte, api.Cells)
	for i := range cells {
		if r.IntN(10) >= walls {
			cells[i] = byte(1 + r.IntN(5))
		}
		if r.IntN(60) == 0 {
			cells[i] = byte(r.IntN(256))
		}
	}
	return cells
}

// anyCrowd is a list with rows that are free and that are not, near a place and elsewhere, few and many.
func anyCrowd(r *rand.Rand, x, y int) []api.Ent {
	l := make([]api.Ent, []int{0, 5, 32, 32, 32, 40}[r.IntN(6)])
	for i := range l {
		l[i] = api.Ent{Kind: r.IntN(5), Gen: r.IntN(256), X: r.IntN(26) - 1, Y: r.IntN(18) - 1}
		if r.IntN(3) > 0 {
			l[i].X, l[i].Y = x+r.IntN(5)-2, y+r.IntN(5)-2
		}
	}
	return l
}

func anyTargets(r *rand.Rand, x, y int) []int {
	targets := make([]int, r.IntN(4))
	for i := range targets {
		targets[i] = r.IntN(400) - 8
		if r.IntN(3) == 0 {
			targets[i] = at(x+r.IntN(5)-2, y+r.IntN(5)-2)
		}
	}
	return targets
}

// checkStep holds a step against P604: it leads to a cell where nobody stands.
func checkStep(t *testing.T, cells []byte, l []api.Ent, x, y, way int) {
	t.Helper()
	if way == api.Stay {
		return
	}
	i := slices.IndexFunc(ways, func(w struct{ way, dx, dy int }) bool { return w.way == way })
	if i < 0 {
		t.Fatalf("P602: from (%d, %d): %d is no way", x, y, way)
	}
	nx, ny := x+ways[i].dx, y+ways[i].dy
	if !walkable(cells, nx, ny) || someone(l, nx, ny) {
		t.Fatalf("P604: from (%d, %d) the step %d leads to a wall or to someone", x, y, way)
	}
}

func TestAsTheWordsSay(t *testing.T) {
	r := rand.New(rand.NewPCG(6, 1))
	moved, stayed, none := 0, 0, 0
	for range 4000 {
		cells := anyFloor(r, r.IntN(6))
		if r.IntN(10) == 0 {
			cells = cells[:r.IntN(api.Cells)]
		}
		x, y := r.IntN(26)-1, r.IntN(18)-1
		l, targets := anyCrowd(r, x, y), anyTargets(r, x, y)
		got, want := Toward(cells, l, x, y, targets...), toward(cells, l, x, y, targets)
		if got != want {
			t.Fatalf("P602: from (%d, %d) to %v: %d, not %d; cells %v, rows %+v", x, y, targets, got, want, cells, l)
		}
		checkStep(t, cells, l, x, y, got)
		if moved++; got == api.Stay {
			moved, stayed = moved-1, stayed+1
		}
		place, want := Spot(cells, l, x, y), spot(cells, l, x, y)
		if place != want {
			t.Fatalf("P603: from (%d, %d): %d, not %d; cells %v, rows %+v", x, y, place, want, cells, l)
		}
		if place == -1 {
			none++
		}
	}
	// The floors are such that all that can be answered is.
	if moved < 500 || stayed < 500 || none < 200 || none > 3000 {
		t.Errorf("moved %d times, stayed %d times, no spot %d times", moved, stayed, none)
	}
}

// TestTowardComesThere: on floors of gen, with nobody in the way, step by step, as many as the field says.
func TestTowardComesThere(t *testing.T) {
	for seed := range int64(12) {
		level, err := gen.Make(seed, 1+int(seed)%api.Floors)
		if err != api.OK {
			t.Fatal(err)
		}
		down := grid.Find(level.Cells, api.CDown)
		far := grid.Field(level.Cells, nil, down)
		for cell, n := range far {
			x, y := cell%24, cell/24
			if n < 0 {
				if got := Toward(level.Cells, nil, x, y, down); got != api.Stay {
					t.Fatalf("P602: seed %d: from the wall %d: %d", seed, cell, got)
				}
				continue
			}
			for left := n; left > 0; left-- {
				way := Toward(level.Cells, nil, x, y, down)
				checkStep(t, level.Cells, nil, x, y, way)
				if way == api.Stay {
					t.Fatalf("P602: seed %d: no step from (%d, %d), %d steps away", seed, x, y, left)
				}
				x, y = x+ways[way-1].dx, y+ways[way-1].dy
			}
			if at(x, y) != down || Toward(level.Cells, nil, x, y, down) != api.Stay {
				t.Fatalf("P602: seed %d: from cell %d it leads to (%d, %d)", seed, cell, x, y)
			}
		}
	}
}

// TestWithItsMonsters: on floors of gen among its monsters, from each cell.
func TestWithItsMonsters(t *testing.T) {
	for seed := range int64(6) {
		level, err := gen.Make(seed, 3)
		if err != api.OK {
			t.Fatal(err)
		}
		l := append(slices.Clone(level.Ents), make([]api.Ent, api.MaxEnts-len(level.Ents))...)
		up, down := grid.Find(level.Cells, api.CUp), grid.Find(level.Cells, api.CDown)
		orc := at(l[0].X, l[0].Y)
		for cell := range api.Cells {
			x, y := cell%24, cell/24
			for _, targets := range [][]int{{up}, {down}, {orc}, {orc, up}} {
				got := Toward(level.Cells, l, x, y, targets...)
				if want := toward(level.Cells, l, x, y, targets); got != want {
					t.Fatalf("P602: seed %d, from cell %d to %v: %d, not %d", seed, cell, targets, got, want)
				}
				checkStep(t, level.Cells, l, x, y, got)
			}
			if got, want := Spot(level.Cells, l, x, y), spot(level.Cells, l, x, y); got != want {
				t.Fatalf("P603: seed %d, from cell %d: %d, not %d", seed, cell, got, want)
			}
		}
	}
}

// TestWhatIsHandedInStays: cells, list and targets, their spare room too.
func TestWhatIsHandedInStays(t *testing.T) {
	r := rand.New(rand.NewPCG(6, 2))
	for range 300 {
		x, y := r.IntN(24), r.IntN(16)
		cells, l, targets := append(anyFloor(r, 2), 1, 2, 3), append(anyCrowd(r, x, y), crowd(place{x, y})...), append(anyTargets(r, x, y), 5, 500, -5)
		cells1, l1, targets1 := slices.Clone(cells), slices.Clone(l), slices.Clone(targets)
		n, m := r.IntN(len(l)), r.IntN(len(targets))
		Toward(cells[:api.Cells], l[:n], x, y, targets[:m]...)
		Spot(cells[:api.Cells], l[:n], x, y)
		if !slices.Equal(cells, cells1) || !slices.Equal(l, l1) || !slices.Equal(targets, targets1) {
			t.Fatalf("P2: from (%d, %d): what was handed in has changed", x, y)
		}
	}
}

// TestAlwaysTheSame: the same calls answer the same, several at once too.
func TestAlwaysTheSame(t *testing.T) {
	level, err := gen.Make(7, 3)
	if err != api.OK {
		t.Fatal(err)
	}
	all := func() []int {
		var out []int
		for cell := range api.Cells {
			x, y := cell%24, cell/24
			out = append(out, Toward(level.Cells, level.Ents, x, y, 291, 100), Spot(level.Cells, level.Ents, x, y), Beside(x, y, 5, 5))
		}
		return out
	}
	want := all()
	var wg sync.WaitGroup
	for range 4 {
		wg.Go(func() {
			if !slices.Equal(all(), want) {
				t.Error("P3: the same calls answer otherwise")
			}
		})
	}
	wg.Wait()
}
