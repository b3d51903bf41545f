package grid

import (
	"math"
	"math/big"
	"math/rand/v2"
	"slices"
	"strings"
	"sync"
	"testing"

	"adit/api"
)

// signs are those of the kinds, in their order.
const signs = "#.+<>$"

// floor is drawn by rows of signs; what is not drawn is a wall.
func floor(rows ...string) []byte {
	cells := make([]byte, api.Cells)
	for y, row := range rows {
		for x, sign := range []byte(row) {
			cells[y*api.Wide+x] = byte(strings.IndexByte(signs, sign))
		}
	}
	return cells
}

// open is a floor without a wall.
func open() []byte {
	return slices.Repeat([]byte{api.CFloor}, api.Cells)
}

// chance is a floor of all kinds, and of some that there are not: the more open the greater the share is.
func chance(r *rand.Rand, share int) []byte {
	cells := make([]byte, api.Cells)
	for i := range cells {
		if r.IntN(100) < share {
			cells[i] = byte(1 + r.IntN(5))
		} else if r.IntN(10) == 0 {
			cells[i] = byte(6 + r.IntN(250))
		}
	}
	return cells
}

type place struct{ x, y int }

// places are all cells, in the order of their numbers.
func places() []place {
	var all []place
	for y := range 16 {
		for x := range 24 {
			all = append(all, place{x, y})
		}
	}
	return all
}

// outside are places that are no cells: beside the floor on each side, and far from it, where a number may wrap round.
func outside() []place {
	l := []place{{-1, -1}, {24, 16}, {-1, 16}, {24, -1}, {-24, 1}, {24 * 16, 0}, {0, -16},
		// Their numbers, modulo 2^64 too, are those of cells.
		{-24, 2}, {48, -1}, {-1, 1}, {25, 0}, {-384, 16}, {0, 1 << 61}, {0, -1 << 61}, {5, 1<<61 + 1}, {1 << 62, 1}, {0, 1 << 60}}
	for _, far := range []int{1 << 31, 1 << 32, math.MaxInt - 1, math.MaxInt, -1 << 31, -1 << 32, math.MinInt + 1, math.MinInt} {
		l = append(l, place{far, 0}, place{0, far}, place{23, far}, place{far, 15}, place{far, far}, place{far, -far}, place{-far, far / 24})
	}
	for x := range 24 {
		l = append(l, place{x, -1}, place{x, 16})
	}
	for y := range 16 {
		l = append(l, place{-1, y}, place{24, y})
	}
	return l
}

func TestAt(t *testing.T) {
	cells := make([]byte, api.Cells)
	for i := range cells {
		cells[i] = byte(i*7 + 1)
	}
	for i, p := range places() {
		if got := At(cells, p.x, p.y); got != int(cells[i]) {
			t.Errorf("P301: At %v: %d, not %d", p, got, cells[i])
		}
	}
	for _, p := range outside() {
		for _, l := range [][]byte{cells, open(), nil, slices.Repeat([]byte{api.CFloor}, 5*api.Cells)} {
			if got := At(l, p.x, p.y); got != api.CWall {
				t.Errorf("P301: At %v of %d cells: %d, not a wall", p, len(l), got)
			}
		}
	}
}

// TestAtFewAndMany: cells that are too few tell those that they have; those beyond a floor are no cells.
func TestAtFewAndMany(t *testing.T) {
	for _, n := range []int{0, 1, 2, 23, 24, 25, 47, 100, 382, 383, 384, 385, 408, 1000} {
		cells := slices.Repeat([]byte{api.CShop}, n)
		for i, p := range places() {
			want := api.CWall
			if i < n {
				want = api.CShop
			}
			if got := At(cells, p.x, p.y); got != want {
				t.Errorf("P301: At %v of %d cells: %d, not %d", p, n, got, want)
			}
		}
	}
	// What is spare room of the row is none of its cells.
	if got := At(open()[:30], 6, 1); got != api.CWall {
		t.Errorf("P301: behind the last cell: %d", got)
	}
	if At(nil, 0, 0) != api.CWall || At([]byte{}, 0, 0) != api.CWall {
		t.Error("P301: no cells")
	}
}

func TestWalkAndClear(t *testing.T) {
	type is struct{ walk, clear bool }
	want := map[int]is{
		api.CFloor: {true, true}, api.CDoor: {true, false}, api.CUp: {true, true}, api.CDown: {true, true}, api.CShop: {true, true},
	}
	var kinds []int
	for kind := -300; kind <= 600; kind++ {
		kinds = append(kinds, kind)
	}
	for kind := range 6 {
		kinds = append(kinds, kind+1<<16, kind+1<<31, kind+1<<32, kind+1<<62, kind-1<<32, kind+math.MinInt, math.MaxInt-kind)
	}
	for _, kind := range kinds {
		if got := (is{Walk(kind), Clear(kind)}); got != want[kind] {
			t.Errorf("P301: kind %d: %v, not %v", kind, got, want[kind])
		}
	}
}

func TestFind(t *testing.T) {
	cells := floor("#.+<>$", ".$>")
	for kind, want := range map[int]int{
		api.CWall: 0, api.CFloor: 1, api.CDoor: 2, api.CUp: 3, api.CDown: 4, api.CShop: 5,
		6: -1, 255: -1, -1: -1, 256: -1, 256 + api.CUp: -1, api.CUp - 256: -1, 1<<32 + api.CUp: -1, math.MaxInt: -1, math.MinInt: -1,
	} {
		if got := Find(cells, kind); got != want {
			t.Errorf("P301: kind %d: %d, not %d", kind, got, want)
		}
	}
	if got := Find([]byte{9, 200, 255, 200}, 200); got != 1 {
		t.Errorf("P301: a kind that is none, and stands there: %d", got)
	}
}

func TestFindEachCell(t *testing.T) {
	for _, n := range []int{1, 24, 383, 384, 385, 500} {
		for i := range n {
			cells := make([]byte, n)
			cells[i], cells[n-1] = api.CDown, api.CDown
			want := i
			if i >= 384 {
				want = -1
			}
			if got := Find(cells, api.CDown); got != want {
				t.Errorf("P301: at %d of %d: %d", i, n, got)
			}
		}
	}
	if Find(nil, api.CWall) != -1 || Find([]byte{}, api.CWall) != -1 || Find(open()[:0], api.CFloor) != -1 {
		t.Error("P301: no cells")
	}
	if got := Find(open(), api.CWall); got != -1 {
		t.Errorf("P301: no wall: %d", got)
	}
}

func TestLine(t *testing.T) {
	for _, x := range []struct {
		x0, y0, x1, y1 int
		want           []int
	}{
		{0, 0, 2, 1, []int{0, 25, 26}},
		{2, 1, 0, 0, []int{26, 25, 0}},
		{2, 0, 0, 1, []int{2, 25, 24}},
		{0, 1, 2, 0, []int{24, 25, 2}}, // a half goes up to the greater number: south
		{0, 0, 1, 2, []int{0, 25, 49}},
		{1, 2, 0, 0, []int{49, 25, 0}},
		{0, 2, 1, 0, []int{48, 25, 1}},
		{1, 0, 0, 2, []int{1, 25, 48}},
		{5, 5, 5, 5, []int{125}},
		{0, 0, 0, 0, []int{0}},
		{23, 15, 23, 15, []int{383}},
		{4, 1, 7, 1, []int{28, 29, 30, 31}},
		{7, 1, 4, 1, []int{31, 30, 29, 28}},
		{3, 4, 3, 6, []int{99, 123, 147}},
		{3, 6, 3, 4, []int{147, 123, 99}},
		{0, 0, 3, 3, []int{0, 25, 50, 75}},
		{3, 0, 0, 3, []int{3, 26, 49, 72}},
		{3, 3, 0, 0, []int{75, 50, 25, 0}},
		{0, 3, 3, 0, []int{72, 49, 26, 3}},
		{0, 0, 5, 2, []int{0, 1, 26, 27, 52, 53}},
		{5, 2, 0, 0, []int{53, 52, 27, 26, 1, 0}},
		{23, 15, 22, 15, []int{383, 382}},
	} {
		if got := Line(x.x0, x.y0, x.x1, x.y1); !slices.Equal(got, x.want) {
			t.Errorf("P302: Line(%d, %d, %d, %d): %v, not %v", x.x0, x.y0, x.x1, x.y1, got, x.want)
		}
	}
}

// drawn is P302 word by word, by fractions: r is the greatest whole number that is at most (2 p + n) / (2 n).
func drawn(a, b place) []int {
	n := 0
	for _, d := range []int{b.x - a.x, a.x - b.x, b.y - a.y, a.y - b.y} {
		if d > n {
			n = d
		}
	}
	if n == 0 {
		return []int{a.y*24 + a.x}
	}
	r := func(p int) int {
		part := big.NewRat(int64(2*p+n), int64(2*n))
		q := -100
		for big.NewRat(int64(q+1), 1).Cmp(part) <= 0 {
			q++
		}
		return q
	}
	var l []int
	for k := 0; k <= n; k++ {
		l = append(l, (a.y+r(k*(b.y-a.y)))*24+a.x+r(k*(b.x-a.x)))
	}
	return l
}

// TestLineFromAllToAll: every step between two cells there is, from the corners; and the form of every line.
func TestLineFromAllToAll(t *testing.T) {
	for _, a := range []place{{0, 0}, {23, 0}, {0, 15}, {23, 15}, {11, 7}} {
		for _, b := range places() {
			if got, want := Line(a.x, a.y, b.x, b.y), drawn(a, b); !slices.Equal(got, want) {
				t.Errorf("P302: from %v to %v: %v, not %v", a, b, got, want)
			}
		}
	}
	for i, a := range places() {
		for j, b := range places() {
			l := Line(a.x, a.y, b.x, b.y)
			if n := max(a.x-b.x, b.x-a.x, a.y-b.y, b.y-a.y); len(l) != n+1 || l[0] != i || l[n] != j {
				t.Fatalf("P302: from %v to %v: %v", a, b, l)
			}
			if slices.Min(l) < 0 || slices.Max(l) >= api.Cells {
				t.Fatalf("P302: from %v to %v: %v", a, b, l)
			}
		}
	}
}

func TestLineWithoutAnEnd(t *testing.T) {
	for _, p := range outside() {
		for _, q := range []place{{0, 0}, {23, 15}, {7, 3}, p} {
			if l := Line(p.x, p.y, q.x, q.y); len(l) != 0 {
				t.Errorf("P302: from %v to %v: %v", p, q, l)
			}
			if l := Line(q.x, q.y, p.x, p.y); len(l) != 0 {
				t.Errorf("P302: from %v to %v: %v", q, p, l)
			}
			if Sees(open(), p.x, p.y, q.x, q.y) || Sees(open(), q.x, q.y, p.x, p.y) {
				t.Errorf("P302: %v sees %v", p, q)
			}
		}
	}
}

func TestSees(t *testing.T) {
	cells := floor(
		"..#..<>$.",
		"..+...+..",
		".........",
		".#.+.....",
		"....#....",
	)
	for _, x := range []struct {
		x0, y0, x1, y1 int
		want           bool
	}{
		{0, 2, 8, 2, true},
		{8, 2, 0, 2, true},
		{4, 0, 8, 0, true}, // stairs and a shop hide nothing
		{0, 0, 4, 0, false},
		{0, 1, 4, 1, false}, // a door hides
		{4, 1, 0, 1, false},
		{0, 1, 2, 1, true}, // it is seen
		{2, 1, 0, 1, true}, // from it is seen
		{0, 0, 2, 0, true}, // a wall is seen
		{2, 0, 0, 0, true},
		{2, 0, 2, 2, false}, // a door beside a wall
		{2, 0, 2, 1, true},  // two that hide, side by side
		{5, 0, 5, 4, true},
		{6, 0, 6, 4, false},
		{6, 4, 6, 0, false},
		{0, 4, 2, 2, false}, // slanting, through (1, 3)
		{2, 2, 0, 4, false},
		{2, 4, 4, 2, false}, // through the door
		{4, 2, 8, 4, true},  // through (5, 3), (6, 3), (7, 4)
		{5, 5, 3, 3, false}, // through (4, 4)
		{0, 0, 4, 2, false}, // (1, 1), (2, 1)
		{4, 4, 4, 4, true},  // one cell, a wall or not
		{0, 0, 0, 0, true},
		{12, 9, 13, 9, true}, // walls side by side
		{12, 9, 14, 9, false},
	} {
		if got := Sees(cells, x.x0, x.y0, x.x1, x.y1); got != x.want {
			t.Errorf("P302: Sees(%d, %d, %d, %d): %v", x.x0, x.y0, x.x1, x.y1, got)
		}
	}
}

// TestSeesEachKind: the cell in the middle is of each kind that a byte can tell.
func TestSeesEachKind(t *testing.T) {
	for kind := range 256 {
		cells := open()
		cells[25] = byte(kind)
		want := kind == api.CFloor || kind == api.CUp || kind == api.CDown || kind == api.CShop
		for _, x := range [][4]int{{0, 1, 2, 1}, {1, 2, 1, 0}, {0, 0, 2, 2}, {2, 0, 0, 2}, {0, 0, 2, 1}} {
			if got := Sees(cells, x[0], x[1], x[2], x[3]); got != want {
				t.Errorf("P302: %v through kind %d: %v", x, kind, got)
			}
		}
		if !Sees(cells, 1, 1, 5, 5) || !Sees(cells, 5, 1, 1, 1) || !Sees(cells, 1, 1, 1, 1) {
			t.Errorf("P302: kind %d at an end", kind)
		}
	}
}

// TestSeesByItsLine: it hangs on every cell between the ends, and on no other one.
func TestSeesByItsLine(t *testing.T) {
	r := rand.New(rand.NewPCG(3, 2))
	for range 3000 {
		a, b := places()[r.IntN(api.Cells)], places()[r.IntN(api.Cells)]
		l := drawn(a, b)
		cells := make([]byte, api.Cells)
		for _, i := range l[1:max(1, len(l)-1)] {
			cells[i] = api.CFloor
		}
		if !Sees(cells, a.x, a.y, b.x, b.y) {
			t.Errorf("P302: %v does not see %v", a, b)
		}
		if len(l) < 3 {
			continue
		}
		cells = open()
		cells[l[1+r.IntN(len(l)-2)]] = byte(api.CDoor * r.IntN(2))
		if Sees(cells, a.x, a.y, b.x, b.y) {
			t.Errorf("P302: %v sees %v", a, b)
		}
	}
}

// TestSeesOfFewCells: ends are cells, told or not; between them what is not told hides.
func TestSeesOfFewCells(t *testing.T) {
	few := open()[:2]
	if !Sees(nil, 3, 3, 3, 3) || !Sees(nil, 3, 3, 4, 4) || Sees(nil, 3, 3, 5, 3) {
		t.Error("P302: no cells")
	}
	if !Sees(few, 0, 0, 2, 0) || Sees(few, 0, 0, 3, 0) || Sees(few, 1, 0, 3, 0) {
		t.Error("P302: two cells")
	}
	if many := slices.Repeat(open(), 3); !Sees(many, 0, 0, 23, 15) || Sees(many, 0, 0, 0, 16) {
		t.Error("P302: more cells than a floor has")
	}
}

// distances is P303 by going over all cells again and again, till nothing becomes less.
func distances(cells []byte, blocked []bool, targets []int) []int {
	walks := func(i int) bool { return i < len(cells) && cells[i] >= 1 && cells[i] <= 5 }
	far := make([]int, 384)
	for i := range far {
		far[i] = 1000
		if walks(i) && slices.Contains(targets, i) {
			far[i] = 0
		}
	}
	for less := true; less; {
		less = false
		for i := range far {
			if !walks(i) || i < len(blocked) && blocked[i] {
				continue
			}
			x, y := i%24, i/24
			for _, n := range []struct {
				is bool
				i  int
			}{{y > 0, i - 24}, {x < 23, i + 1}, {y < 15, i + 24}, {x > 0, i - 1}} {
				if n.is && far[n.i]+1 < far[i] {
					far[i] = far[n.i] + 1
					less = true
				}
			}
		}
	}
	for i := range far {
		if far[i] == 1000 {
			far[i] = -1
		}
	}
	return far
}

// checkField holds a field against P303 and P304.
func checkField(t *testing.T, cells []byte, blocked []bool, targets []int) []int {
	t.Helper()
	far := Field(cells, blocked, targets...)
	if want := distances(cells, blocked, targets); !slices.Equal(far, want) {
		t.Fatalf("P303: %d cells, %d blocks, targets %v: %v, not %v", len(cells), len(blocked), targets, far, want)
	}
	free := func(i int) bool { return i < len(cells) && Walk(int(cells[i])) && (i >= len(blocked) || !blocked[i]) }
	for i := range far {
		var beside []int
		if i%24 > 0 {
			beside = append(beside, i-1)
		}
		if i%24 < 23 {
			beside = append(beside, i+1)
		}
		if i >= 24 {
			beside = append(beside, i-24)
		}
		if i+24 < 384 {
			beside = append(beside, i+24)
		}
		less := func(j int) bool { return far[j] == far[i]-1 }
		if far[i] > 0 && !slices.ContainsFunc(beside, less) {
			t.Fatalf("P304: cell %d has %d, and none beside it one less", i, far[i])
		}
		for _, j := range beside {
			if free(i) && free(j) && (far[i]-far[j] > 1 || far[i] >= 0 != (far[j] >= 0)) {
				t.Fatalf("P304: cells %d and %d have %d and %d", i, j, far[i], far[j])
			}
		}
	}
	return far
}

// at holds a field's numbers against rows of signs: a figure or a small letter (a is 10) is a number, a sign - is -1.
func at(t *testing.T, far []int, rows ...string) {
	t.Helper()
	for y, row := range rows {
		for x, sign := range []byte(row) {
			want := strings.IndexByte("0123456789abcdefghijklmnopqrstuvwxyz", sign)
			if got := far[y*24+x]; got != want {
				t.Errorf("P303: (%d, %d): %d, not %d", x, y, got, want)
			}
		}
	}
}

func TestField(t *testing.T) {
	cells := floor(
		"..#.$",
		".##.<",
		"..+..",
		".##>.",
	)
	at(t, checkField(t, cells, nil, []int{0}),
		"01-78-",
		"1--67-",
		"23456-",
		"3--67-",
		"------")
	// Two targets: the nearest one counts.
	at(t, checkField(t, cells, nil, []int{0, 4}),
		"01-10-",
		"1--21-",
		"23432-",
		"3--43-")
	// A door is walked through; one that is blocked is not.
	blocked := make([]bool, api.Cells)
	blocked[50] = true
	at(t, checkField(t, cells, blocked, []int{0}),
		"01----",
		"1-----",
		"23----",
		"3-----")
	// A wall that is blocked stays one.
	blocked[2] = true
	at(t, checkField(t, cells, blocked, []int{74, 75}),
		"---34-",
		"---23-",
		"---12-",
		"---01-")
}

// TestFieldEdges: no way leads from the end of a row to the next row's beginning, nor out of the floor and in again.
func TestFieldEdges(t *testing.T) {
	cells := floor(strings.Repeat("#", 23)+".", ".", strings.Repeat("#", 23)+".")
	far := checkField(t, cells, nil, []int{23})
	if far[23] != 0 || far[24] != -1 || far[71] != -1 {
		t.Errorf("P303: %v", far[:72])
	}
	for _, corner := range []place{{0, 0}, {23, 0}, {0, 15}, {23, 15}} {
		far := checkField(t, open(), nil, []int{corner.y*24 + corner.x})
		for i, p := range places() {
			if want := max(p.x-corner.x, corner.x-p.x) + max(p.y-corner.y, corner.y-p.y); far[i] != want {
				t.Errorf("P303: from %v to %v: %d, not %d", p, corner, far[i], want)
			}
		}
	}
}

// TestFieldLongWay: a snake through the whole floor.
func TestFieldLongWay(t *testing.T) {
	var rows []string
	for y := range 15 {
		switch y % 4 {
		case 0, 2:
			rows = append(rows, strings.Repeat(".", 24))
		case 1:
			rows = append(rows, strings.Repeat("#", 23)+".")
		case 3:
			rows = append(rows, "."+strings.Repeat("#", 23))
		}
	}
	far := checkField(t, floor(rows...), nil, []int{0})
	// Eight rows, and seven cells from each to the next.
	if got, want := far[14*24], 8*24+7-1; got != want || got != slices.Max(far) {
		t.Errorf("P303: the far end has %d, not %d", got, want)
	}
}

// TestFieldTargets: which of those that are named count.
func TestFieldTargets(t *testing.T) {
	cells := floor("...#..", ".....#")
	want := checkField(t, cells, nil, []int{1})
	for _, named := range [][]int{
		{1, 1}, {1, 1, 1, 1}, // the same one twice
		{1, -1}, {-1, 1}, {-384, 1}, {1, 384}, {385, 1, 400}, // none
		{1 << 62, 1, -1 << 62, math.MaxInt, math.MinInt, 1 << 32, 1<<32 + 2},
		{1 - 24*16, 1, 1 + 24*16}, {1, -24}, {1, -23},
		{1, 3}, {3, 1, 29, 383}, // walls
	} {
		if got := checkField(t, cells, nil, named); !slices.Equal(got, want) {
			t.Errorf("P303: targets %v", named)
		}
	}
	none := slices.Repeat([]int{-1}, api.Cells)
	for _, named := range [][]int{nil, {}, {3}, {-1}, {384}, {3, -1, 384, 29}, {math.MinInt, math.MaxInt}} {
		if got := checkField(t, cells, nil, named); !slices.Equal(got, none) {
			t.Errorf("P303: targets %v: %v", named, got)
		}
		if got := Field(open(), nil, named...); slices.Equal(got, none) != (len(named) == 0 || !slices.ContainsFunc(named, func(i int) bool { return i >= 0 && i < 384 })) {
			t.Errorf("P303: targets %v of an open floor: %v", named, got)
		}
	}
	// All cells at once, and far more than there are.
	var all []int
	for i := range 5 * api.Cells {
		all = append(all, i-api.Cells)
	}
	far := checkField(t, cells, nil, all)
	for i, k := range cells {
		if got := far[i] == 0; got != Walk(int(k)) || far[i] > 0 {
			t.Errorf("P303: all are targets: %d has %d", i, far[i])
		}
	}
}

// TestFieldBlockedTarget: a target that is blocked is reached; blocked cells else are not gone over, and have -1.
func TestFieldBlockedTarget(t *testing.T) {
	cells := floor(".....")
	blocked := []bool{false, true, false, true, false}
	at(t, checkField(t, cells, blocked, []int{1}), "101--")
	at(t, checkField(t, cells, blocked, []int{3}), "--101")
	at(t, checkField(t, cells, blocked, []int{1, 3}), "10101")
	at(t, checkField(t, cells, blocked, []int{0}), "0----")
	at(t, checkField(t, cells, blocked, []int{2}), "--0--")
	at(t, checkField(t, cells, []bool{true, true, true, true, true}, []int{2}), "--0--")
	// A wall that is a target is none, blocked or not.
	at(t, checkField(t, cells, []bool{5: true}, []int{5, 6}), "-------")
}

// TestFieldBlocks: blocks that tell fewer cells than there are, and more.
func TestFieldBlocks(t *testing.T) {
	for _, n := range []int{0, 1, 2, 23, 24, 25, 100, 383, 384, 385, 408, 2000} {
		blocked := make([]bool, n)
		for i := range blocked {
			blocked[i] = i%5 == 3 || i >= 384
		}
		for _, target := range []int{0, 3, 200, 383} {
			checkField(t, open(), blocked, []int{target})
		}
		if len(blocked) > 0 {
			for i := range blocked {
				blocked[i] = true
			}
			far := checkField(t, open(), blocked, []int{383})
			if got := far[min(n, 384)-1]; n < 384 && got != -1 {
				t.Errorf("P303: %d blocks: %d", n, got)
			}
		}
	}
	// What is spare room of the blocks tells nothing.
	all := slices.Repeat([]bool{true}, api.Cells)
	if far := Field(open(), all[:0], 0); far[1] != 1 || far[383] != 38 {
		t.Errorf("P303: blocks of no length: %v", far)
	}
}

// TestFieldOfFewAndManyCells: what is not told is a wall; what is beyond a floor is no cell.
func TestFieldOfFewAndManyCells(t *testing.T) {
	for _, n := range []int{0, 1, 2, 23, 24, 25, 47, 48, 100, 383, 384, 385, 408, 2000} {
		cells := slices.Repeat([]byte{api.CFloor}, n)
		for _, targets := range [][]int{{0}, {n - 1}, {n}, {383}, {384}, {n - 1, 0}, nil} {
			if far := checkField(t, cells, nil, targets); len(far) != 384 {
				t.Errorf("P303: %d numbers", len(far))
			}
		}
	}
	if far := Field(nil, nil, 0); len(far) != 384 || slices.Max(far) != -1 {
		t.Errorf("P303: no cells: %v", far)
	}
	if far := Field(open()[:1], nil, 0); far[0] != 0 || far[1] != -1 {
		t.Errorf("P303: one cell: %v", far)
	}
}

// TestFieldKinds: each kind that a byte can tell, between two cells of floor.
func TestFieldKinds(t *testing.T) {
	for kind := range 256 {
		cells := floor(".#.")
		cells[1] = byte(kind)
		far := checkField(t, cells, nil, []int{0})
		want := [2]int{-1, -1}
		if kind >= 1 && kind <= 5 {
			want = [2]int{1, 2}
		}
		if got := [2]int{far[1], far[2]}; got != want {
			t.Errorf("P303: kind %d: %v, not %v", kind, got, want)
		}
	}
}

// TestFieldByChance: floors, blocks and targets of all sorts, against P303 and P304.
func TestFieldByChance(t *testing.T) {
	r := rand.New(rand.NewPCG(3, 3))
	for n := range 400 {
		cells := chance(r, 40+n%60)
		cells = cells[:len(cells)-r.IntN(2)*r.IntN(len(cells))]
		blocked := make([]bool, r.IntN(450))
		for i := range blocked {
			blocked[i] = r.IntN(8) == 0
		}
		targets := make([]int, r.IntN(6))
		for i := range targets {
			targets[i] = r.IntN(400) - 8
		}
		checkField(t, cells, blocked, targets)
	}
}

// TestRowsStay: the rows that are handed in, and their spare room, stay as they were, and the answers are nobody else's.
func TestRowsStay(t *testing.T) {
	r := rand.New(rand.NewPCG(3, 4))
	for _, n := range []int{0, 1, 100, 383, 384} {
		cells, blocked, targets := chance(r, 70), make([]bool, 400), []int{5, 100, -1, 384, 5, 300, 77, 7}
		for i := range blocked {
			blocked[i] = r.IntN(6) == 0
		}
		keptCells, keptBlocked, keptTargets := slices.Clone(cells), slices.Clone(blocked), slices.Clone(targets)
		first := Field(cells[:n], blocked[:n], targets[:4]...)
		Find(cells[:n], api.CShop)
		Find(cells[:n], 300)
		for _, p := range places() {
			At(cells[:n], p.x, p.y)
			Sees(cells[:n], p.x, p.y, 23-p.x, 3)
		}
		if !slices.Equal(cells, keptCells) || !slices.Equal(blocked, keptBlocked) || !slices.Equal(targets, keptTargets) {
			t.Errorf("P2: of %d cells: what was handed in is changed", n)
		}
		kept := slices.Clone(first)
		clear(cells)
		clear(blocked)
		clear(targets)
		if !slices.Equal(first, kept) {
			t.Errorf("P2: of %d cells: an answer hangs on what was handed in", n)
		}
		second := Field(keptCells[:n], keptBlocked[:n], keptTargets[:4]...)
		fill(first)
		if !slices.Equal(second, kept) {
			t.Errorf("P2: of %d cells: two answers share memory", n)
		}
	}
}

// fill overwrites a row and its spare room.
func fill(row []int) {
	row = row[:cap(row)]
	for i := range row {
		row[i] = -77
	}
}

func TestLinesAreNew(t *testing.T) {
	for _, b := range []place{{3, 4}, {9, 4}, {3, 12}, {20, 14}, {24, 0}} {
		first := Line(3, 4, b.x, b.y)
		second := Line(3, 4, b.x, b.y)
		kept := slices.Clone(second)
		fill(first)
		if !slices.Equal(second, kept) || !slices.Equal(Line(3, 4, b.x, b.y), kept) {
			t.Errorf("P2: lines to %v share memory", b)
		}
	}
}

// TestSameAlways: whoever asks, and whatever else is asked between, the answers are the same.
func TestSameAlways(t *testing.T) {
	cells := chance(rand.New(rand.NewPCG(3, 5)), 75)
	blocked := make([]bool, api.Cells)
	for i := range blocked {
		blocked[i] = i%11 == 4
	}
	var want [][]int
	for i := range api.Cells {
		want = append(want, Field(cells, blocked, i, i/2))
	}
	var all sync.WaitGroup
	for range 4 {
		all.Go(func() {
			for i, far := range slices.Backward(want) {
				if !slices.Equal(Field(cells, blocked, i, i/2), far) {
					t.Errorf("P3: the field of %d and %d", i, i/2)
				}
			}
		})
	}
	all.Wait()
}
