package minds

import (
	"math"
	"math/rand/v2"
	"slices"
	"strings"
	"sync"
	"testing"

	"adit/api"
	"adit/dice"
	"adit/ents"
	"adit/gen"
	"adit/goods"
)

// signs are those of the kinds of cells, in their order.
const signs = "#.+<>$"

// rowOf tells the rows of those who are drawn: the heroes of seats 0 to 3, whose rows fall as their seats rise, and monsters.
func rowOf(sign byte) int {
	return map[byte]int{'0': 29, '1': 21, '2': 13, '3': 8, 'r': 4, 'o': 14, 'm': 24, 'R': 0, 'M': 31}[sign]
}

// kindOf tells the kind of one who is drawn.
func kindOf(sign byte) int {
	return map[byte]int{'r': api.ERat, 'R': api.ERat, 'o': api.EOrc, 'm': api.EMage, 'M': api.EMage}[sign]
}

func at(x, y int) int { return y*24 + x }

// bare is a world of walls with nobody in it. What minds should not ask for has a number of its own.
func bare() api.World {
	w := api.World{Seed: -55, Frame: 1234, Floor: 2, Gold: [api.Seats]int{1, 200, 3, 999}}
	w.Cells, w.Ents, w.Items = make([]byte, api.Cells), make([]api.Ent, api.MaxEnts), make([]api.Item, api.MaxItems)
	for row := range w.Ents {
		w.Ents[row].Gen = 200 + row
	}
	return w
}

// drawn is a world by rows of signs: those of cells; of heroes (their seats) and of monsters, on CFloor. What is not drawn is a wall.
func drawn(rows ...string) api.World {
	w := bare()
	for y, signRow := range rows {
		for x, sign := range []byte(signRow) {
			if kind := strings.IndexByte(signs, sign); kind >= 0 {
				w.Cells[at(x, y)] = byte(kind)
				continue
			}
			w.Cells[at(x, y)] = api.CFloor
			put(&w, sign, x, y)
		}
	}
	stairs(&w)
	return w
}

// put puts one by its sign at a place; of several monsters of one sign each next one has the next free row.
func put(w *api.World, sign byte, x, y int) int {
	e := ents.Stats(api.EHero)
	if sign >= '0' && sign <= '3' {
		e.Seat = int(sign - '0')
	} else {
		e = ents.Stats(kindOf(sign))
	}
	row := rowOf(sign)
	for w.Ents[row].Kind != api.ENone {
		row = (row + 1) % api.MaxEnts
	}
	e.X, e.Y, e.Gen = x, y, w.Ents[row].Gen
	w.Ents[row] = e
	return row
}

// stairs puts those that a world lacks on its last walls, out of reach of what is drawn at its beginning.
func stairs(w *api.World) {
	for _, kind := range []byte{api.CUp, api.CDown} {
		if !slices.Contains(w.Cells, kind) {
			for cell := api.Cells - 1; cell >= 0; cell-- {
				if w.Cells[cell] == api.CWall {
					w.Cells[cell] = kind
					break
				}
			}
		}
	}
}

// open is a world without walls: the stairs are at (23, 0) and (0, 15).
func open() api.World {
	w := bare()
	for cell := range w.Cells {
		w.Cells[cell] = api.CFloor
	}
	w.Cells[at(23, 0)], w.Cells[at(0, 15)] = api.CUp, api.CDown
	return w
}

func twinOf(w api.World) api.World {
	w.Cells, w.Ents, w.Items = slices.Clone(w.Cells), slices.Clone(w.Ents), slices.Clone(w.Items)
	return w
}

// same tells whether all is the same in two worlds.
func same(a, b api.World) bool {
	return a.Seed == b.Seed && a.Frame == b.Frame && a.Floor == b.Floor && a.State == b.State && a.Gold == b.Gold &&
		slices.Equal(a.Cells, b.Cells) && slices.Equal(a.Ents, b.Ents) && slices.Equal(a.Items, b.Items)
}

// mayBe tells whether a world is such as may be, so that all promises hold for it: chapter 11's Check.
func mayBe(w api.World) bool {
	if w.Frame < 0 || w.Frame >= 1<<30 || w.Floor < 1 || w.Floor > 3 || w.State < 0 || w.State > 2 || slices.Min(w.Gold[:]) < 0 || slices.Max(w.Gold[:]) > 999 {
		return false
	}
	if len(w.Cells) != 384 || len(w.Ents) != 32 || len(w.Items) != 40 {
		return false
	}
	count := [256]int{}
	for _, kind := range w.Cells {
		count[kind]++
	}
	if slices.Max(count[6:]) > 0 || count[api.CUp] != 1 || count[api.CDown] != 1 {
		return false
	}
	for row := range w.Ents {
		if !rowMayBe(w, row) {
			return false
		}
	}
	return goods.Check(w)
}

// rowMayBe is mayBe of one row.
func rowMayBe(w api.World, row int) bool {
	e := w.Ents[row]
	fresh := ents.Stats(e.Kind)
	if e.Gen < 0 || e.Gen > 255 {
		return false
	}
	if e.Kind == api.ENone {
		return e == api.Ent{Gen: e.Gen}
	}
	for _, other := range w.Ents[:row] {
		if other.Kind != api.ENone && other.X == e.X && other.Y == e.Y || other.Kind == api.EHero && e.Kind == api.EHero && other.Seat == e.Seat {
			return false
		}
	}
	return walkable(w.Cells, e.X, e.Y) && e.HP >= 1 && e.HP <= e.Max && e.Max == fresh.Max && e.Atk == fresh.Atk && e.Def == fresh.Def &&
		fresh != (api.Ent{}) && e.Poison >= 0 && e.Poison <= 9 && e.Stun >= 0 && e.Stun <= 9 && e.Seat >= 0 && e.Seat <= 3 && (e.Kind == api.EHero || e.Seat == 0)
}

// frameOf is one at which the die of a monster that sees nobody shows a number.
func frameOf(t *testing.T, seed int64, row, shows int) int {
	t.Helper()
	for frame := range 10000 {
		if dice.Die(8, seed, frame, row, 90) == shows {
			return frame
		}
	}
	t.Fatalf("no frame at which the die of row %d shows %d", row, shows)
	return 0
}

// checkMonster holds what a monster does against what is wanted, whatever its die shows. The world must be one that may be.
func checkMonster(t *testing.T, what string, w api.World, row, want int) {
	t.Helper()
	for shows := range 8 {
		w.Frame = frameOf(t, w.Seed, row, shows)
		checkOnce(t, what, w, row, want)
	}
}

func checkOnce(t *testing.T, what string, w api.World, row, want int) {
	t.Helper()
	if !mayBe(w) {
		t.Fatalf("%s: the world is none that may be", what)
	}
	if got := Monster(w, row); got != want {
		t.Errorf("P901: %s: row %d at frame %d: %d, not %d", what, row, w.Frame, got, want)
	}
}

// checkWanders holds that a monster goes where its die shows, if that cell is free.
func checkWanders(t *testing.T, what string, w api.World, row int) {
	t.Helper()
	for shows := range 8 {
		w.Frame = frameOf(t, w.Seed, row, shows)
		want := api.Stay
		for _, way := range ways {
			if x, y := w.Ents[row].X+way.dx, w.Ents[row].Y+way.dy; way.way == shows && walkable(w.Cells, x, y) && !someone(w.Ents, x, y) {
				want = shows
			}
		}
		checkOnce(t, what, w, row, want)
	}
}

func checkRobot(t *testing.T, what string, w api.World, seat, want int) {
	t.Helper()
	if !mayBe(w) {
		t.Fatalf("%s: the world is none that may be", what)
	}
	if got := Robot(w, seat); got != want {
		t.Errorf("P902: %s: %d, not %d", what, got, want)
	}
}

// ends are numbers at both ends of their range, and such as are a small one modulo a power of 2.
func ends(n int) []int {
	return []int{math.MinInt, math.MinInt + n, math.MaxInt, math.MaxInt - n, n - 1<<32, n + 1<<32, n + 1<<31, n + 1<<16, n + 256, n - 256, n + 1<<62, ^n}
}

// ways are the four, with their steps.
var ways = []struct{ way, dx, dy int }{{api.North, 0, -1}, {api.East, 1, 0}, {api.South, 0, 1}, {api.West, -1, 0}}

// Monster.

// TestMonsterOfRowsWithout: a row that is free, one that is none, a hero's, whatever the dice show and whoever is near.
func TestMonsterOfRowsWithout(t *testing.T) {
	w := drawn(".....", ".10r.", "..2..", "3.o..")
	for row, e := range w.Ents {
		if e.Kind == api.ENone || e.Kind == api.EHero {
			checkMonster(t, "a free row or a hero's", w, row, api.Stay)
		}
	}
	for frame := range 50 {
		w.Frame = frame
		for row := -40; row < 100; row++ {
			if row < 0 || row >= api.MaxEnts {
				checkOnce(t, "a row that is none", w, row, api.Stay)
			}
		}
		for _, sign := range []byte("r0om1") {
			for _, row := range ends(rowOf(sign)) {
				checkOnce(t, "a row far away", w, row, api.Stay)
			}
		}
	}
}

// TestMonsterOfFewAndManyRows: of lists with fewer rows those; of more the first MaxEnts, as ents has it.
func TestMonsterOfFewAndManyRows(t *testing.T) {
	w := drawn("r0")
	w.Ents = append(w.Ents, w.Ents[rowOf('r')])
	if got := Monster(w, api.MaxEnts); got != api.Stay {
		t.Errorf("P901: a row too many: %d", got)
	}
	if got := Monster(w, rowOf('r')); got != api.East {
		t.Errorf("P901: a row, with one too many: %d", got)
	}
	w.Ents = w.Ents[:rowOf('r')]
	for row := -1; row < 34; row++ {
		if got := Monster(w, row); got != api.Stay {
			t.Errorf("P901: row %d of no rows that are taken: %d", row, got)
		}
	}
	w.Ents = nil
	if got := Monster(w, 0); got != api.Stay {
		t.Errorf("P901: no rows: %d", got)
	}
	// A free row is free by its kind, whatever else it holds.
	w = drawn("r0")
	w.Ents[rowOf('r')].Kind = api.ENone
	if got := Monster(w, rowOf('r')); got != api.Stay {
		t.Errorf("P901: a free row beside a hero: %d", got)
	}
}

// TestMonsterOfEachKindAndRow: the first and the last row too.
func TestMonsterOfEachKindAndRow(t *testing.T) {
	for row := range api.MaxEnts {
		for _, kind := range []int{api.ERat, api.EOrc, api.EMage} {
			e := ents.Stats(kind)
			e.X, e.Y = 5, 5
			hero := ents.Stats(api.EHero)
			hero.X, hero.Y, hero.Seat = 9, 5, row%4
			w := open()
			w.Ents[row] = e
			checkWanders(t, "nobody else", w, row)
			w.Ents[(row+7)%32] = hero
			checkMonster(t, "a hero in the east", w, row, api.East)
		}
	}
}

func TestMonsterBesideAHero(t *testing.T) {
	for _, way := range ways {
		for _, sign := range []byte("roRmM") {
			for _, seat := range []byte("0123") {
				w := open()
				row := put(&w, sign, 7, 7)
				put(&w, seat, 7+way.dx, 7+way.dy)
				checkMonster(t, "a hero beside it", w, row, way.way)
				// Others, farther off, are let be.
				put(&w, "1230"[seat-'0'], 7-2*way.dx, 7-2*way.dy)
				put(&w, "2301"[seat-'0'], 7+2*way.dy, 7+2*way.dx)
				checkMonster(t, "a hero beside it, others near", w, row, way.way)
			}
		}
	}
}

// TestMonsterBesideHeroesOnKindsOfCells: who is beside it is seen, whatever both stand on.
func TestMonsterBesideHeroesOnKindsOfCells(t *testing.T) {
	for _, own := range []string{"+", "<", ">", "$", "."} {
		for _, its := range []string{"+", "<", ">", "$", "."} {
			if own == its && (own == "<" || own == ">") {
				continue
			}
			w := drawn(own + its)
			row := put(&w, 'o', 0, 0)
			put(&w, '2', 1, 0)
			checkMonster(t, "on "+own+", beside one on "+its, w, row, api.East)
		}
	}
}

// TestMonsterBesideSeveral: the lowest seat, not the first way, nor the lowest row.
func TestMonsterBesideSeveral(t *testing.T) {
	for _, x := range []struct {
		rows []string
		want int
	}{
		{[]string{".0.", "3r1", ".2."}, api.North}, {[]string{".3.", "2r0", ".1."}, api.East}, {[]string{".1.", "3r2", ".0."}, api.South}, {[]string{".1.", "0r2", ".3."}, api.West},
		{[]string{".3.", ".r1", ".2."}, api.East}, {[]string{".3.", "2r.", "..."}, api.West}, {[]string{".3.", ".r.", ".2."}, api.South}, {[]string{"...", "1r2", "..."}, api.West}, {[]string{"...", "3r2", "..."}, api.East},
	} {
		w := drawn(x.rows...)
		checkMonster(t, strings.Join(x.rows, "/"), w, rowOf('r'), x.want)
		// The same with the rows the other way about: the seats alone count.
		slices.Reverse(w.Ents)
		checkMonster(t, strings.Join(x.rows, "/")+", rows turned", w, 31-rowOf('r'), x.want)
	}
}

// TestMonsterSeesSixCells: at each step away, on an open floor. Six cells are a Dist of just 1536; six and one to the side are 1557.
func TestMonsterSeesSixCells(t *testing.T) {
	for dx := -9; dx <= 9; dx++ {
		for dy := -7; dy <= 8; dy++ {
			if dx == 0 && dy == 0 {
				continue
			}
			w := open()
			row := put(&w, 'm', 11, 7)
			put(&w, '3', 11+dx, 7+dy)
			if dx*dx+dy*dy > 36 {
				checkWanders(t, "a hero too far away", w, row)
				continue
			}
			want := api.West
			switch {
			case dy < 0:
				want = api.North
			case dx > 0:
				want = api.East
			case dy > 0:
				want = api.South
			}
			checkMonster(t, "a hero in sight", w, row, want)
		}
	}
}

// TestMonsterAtTheBoundOfSight: the Dists that the document names, by their numbers.
func TestMonsterAtTheBoundOfSight(t *testing.T) {
	for _, x := range []struct {
		dx, dy int
		sees   bool
	}{
		{6, 0, true}, {0, 6, true}, {-6, 0, true}, {0, -6, true}, {6, 1, false}, {1, 6, false}, {-6, 1, false}, {6, -1, false}, {-1, -6, false}, {7, 0, false}, {0, 7, false}, {-7, 0, false}, {0, -7, false},
		{5, 3, true}, {3, 5, true}, {-5, 3, true}, {4, 4, true}, {-4, -4, true}, {5, 4, false}, {4, 5, false}, {-4, 5, false}, {5, -4, false}, {5, 5, false}, {12, 8, false},
	} {
		w := open()
		row := put(&w, 'r', 11, 7)
		put(&w, '1', 11+x.dx, 7+x.dy)
		w.Frame = frameOf(t, w.Seed, row, 0)
		got := Monster(w, row)
		if !mayBe(w) || (got != api.Stay) != x.sees {
			t.Errorf("P901: a hero (%d, %d) away, the die shows 0: %d", x.dx, x.dy, got)
		}
	}
}

func TestMonsterWithoutHeroes(t *testing.T) {
	for _, signs := range []string{"r", "ro", "romRM", "orrrr"} {
		w := open()
		row := put(&w, signs[0], 7, 7)
		for i, sign := range []byte(signs[1:]) {
			put(&w, sign, 9+2*i, 7)
		}
		checkWanders(t, "no hero on the floor", w, row)
	}
}

// TestMonsterBehindThings: whom a wall or a door hides is not seen, near as it is; who stands in the way hides nobody.
func TestMonsterBehindThings(t *testing.T) {
	for _, x := range []struct {
		rows []string
		want int // -1: it sees nobody
	}{
		{[]string{"......", ".r.#0.", "......"}, -1}, {[]string{"......", ".r+.0.", "......"}, -1}, {[]string{".....", ".r#0.", "....."}, -1}, {[]string{".....", ".r+0.", "....."}, -1},
		{[]string{"...", ".r.", ".#.", ".0."}, -1}, {[]string{"...", ".r.", "...", ".+.", ".0."}, -1}, {[]string{".0.", ".#.", "...", ".r.", "..."}, -1},
		{[]string{"....", ".r..", "..#.", "...0"}, -1}, {[]string{"....", ".r..", "..+.", "...0"}, -1},
		{[]string{"....", ".r..", "..#0"}, -1}, // (2, 1) away: the line goes over the cell south-east of it
		{[]string{"....", ".r#.", "...0"}, api.South},
		{[]string{"....", ".r..", ".#.0"}, api.East}, {[]string{".....", ".r<>0", "....."}, api.East}, {[]string{".....", ".r.$0", "....."}, api.East},
		{[]string{".....", ".r.o0", "....."}, api.North}, {[]string{".....", ".ro.0", "....."}, api.North}, {[]string{"#####", ".ro.0", "....."}, api.South}, {[]string{"......", ".rom0.", "......"}, api.North},
	} {
		w := drawn(x.rows...)
		if what := strings.Join(x.rows, "/"); x.want >= 0 {
			checkMonster(t, what, w, rowOf('r'), x.want)
		} else {
			checkWanders(t, what, w, rowOf('r'))
		}
	}
}

// TestMonsterOfDoors: a door at either end hides nobody.
func TestMonsterOfDoors(t *testing.T) {
	for _, rows := range []string{"+...", "...+", "+..+"} {
		w := drawn(rows)
		put(&w, '0', 3, 0)
		checkMonster(t, rows, w, put(&w, 'r', 0, 0), api.East)
	}
}

// TestMonsterGoesForTheNearest: by Dist, not by steps; of those that it sees.
func TestMonsterGoesForTheNearest(t *testing.T) {
	for _, x := range []struct {
		rows []string
		want int
	}{
		{[]string{"0..r.1"}, api.East}, {[]string{"1..r.0"}, api.East}, {[]string{"0.r..1"}, api.West}, {[]string{"1.r..0"}, api.West}, {[]string{"3....r......0"}, api.West},
		{[]string{"0..r..1"}, api.West}, {[]string{"1..r..0"}, api.East}, {[]string{"3..r..2"}, api.East}, {[]string{"2..r..3"}, api.West}, {[]string{"3......r.....1"}, api.East},
		{[]string{"0.....r.....1"}, api.West}, {[]string{"1.....r.....0"}, api.East}, {[]string{"0......r.....1"}, api.East}, {[]string{"1.....r......0"}, api.West},
		// (3, 3) is nearer than (5, 0), though a step more; (4, 3) is as near as (5, 0).
		{[]string{"0....r....", "..........", "..........", "........1."}, api.East}, {[]string{"1....r....", "..........", "..........", "........0."}, api.East},
		{[]string{"0....r....", "..........", "..........", ".........1"}, api.West}, {[]string{"1....r....", "..........", "..........", ".........0"}, api.East},
		// The nearest is hidden: the next one; the lowest seat as near is hidden: the other one.
		{[]string{"1...r#0", "......."}, api.West}, {[]string{"1.r#0", "....."}, api.West}, {[]string{"1..r+.0", "......."}, api.West}, {[]string{"1..r..0", "......."}, api.East},
		// All four.
		{[]string{"....0....", ".........", ".........", "1..r..2..", ".........", "...3....."}, api.South},
		{[]string{"...3.....", ".........", ".........", "2..r..1..", ".........", ".........", "...0....."}, api.South},
		{[]string{"...3.....", ".........", ".........", "1..r..2..", ".........", ".........", "........."}, api.West},
	} {
		w := drawn(x.rows...)
		checkMonster(t, strings.Join(x.rows, "/"), w, rowOf('r'), x.want)
		slices.Reverse(w.Ents)
		checkMonster(t, strings.Join(x.rows, "/")+", rows turned", w, 31-rowOf('r'), x.want)
	}
}

// TestMonsterOfADiagonal: one on the diagonal is not beside it: it goes round, north, east, south, west.
func TestMonsterOfADiagonal(t *testing.T) {
	for _, x := range []struct {
		rows []string
		want int
	}{
		{[]string{"0..", ".r.", "..."}, api.North}, {[]string{"..0", ".r.", "..."}, api.North}, {[]string{"...", ".r.", "..0"}, api.East}, {[]string{"...", ".r.", "0.."}, api.South},
		{[]string{"0#.", ".r.", "..."}, api.West}, {[]string{".#0", ".r.", "..."}, api.East}, {[]string{"...", ".r#", "..0"}, api.South}, {[]string{"...", ".r.", "0#."}, api.West},
		{[]string{"0o.", ".r.", "..."}, api.West}, {[]string{".o0", ".r.", "..."}, api.East}, {[]string{"...", ".rm", "..0"}, api.South}, {[]string{"...", ".r.", "0R."}, api.West},
		{[]string{"r#", "#0"}, api.Stay}, {[]string{".r#", ".#0"}, api.Stay}, {[]string{"..ro", "..m0"}, api.Stay},
	} {
		checkMonster(t, strings.Join(x.rows, "/"), drawn(x.rows...), rowOf('r'), x.want)
	}
}

// TestMonsterWithoutAWay: it sees one that it can't come to, and stays, wherever else it could go.
func TestMonsterWithoutAWay(t *testing.T) {
	for _, rows := range [][]string{
		{"..ro.0"}, {"..r.o0"}, {"0o.r.."}, {"0mr..."}, {"...", ".r.", "ooo", "...", ".0."}, {"......", ".r....", "...#..", "..#0#.", "...#.."},
	} {
		checkMonster(t, strings.Join(rows, "/"), drawn(rows...), rowOf('r'), api.Stay)
	}
	// Another one to whom there is a way, but farther off, or of a higher seat, is not gone for.
	checkMonster(t, "no way to the nearest", drawn("1....ro.0"), rowOf('r'), api.Stay)
	checkMonster(t, "no way to the lowest seat", drawn("1...ro..0"), rowOf('r'), api.Stay)
	checkMonster(t, "a way to the lowest seat", drawn("0...ro..1"), rowOf('r'), api.West)
}

// TestMonsterGoesRound: the way leads round walls and those who stand in it, and away from whom it sees.
func TestMonsterGoesRound(t *testing.T) {
	for _, x := range []struct {
		rows []string
		want int
	}{
		{[]string{".....", "#ro.0", "....."}, api.North}, {[]string{"#####", "#ro.0", "....."}, api.South}, {[]string{"#####", ".ro.0", ".o...", "....."}, api.West},
		{[]string{".....", ".#.o.", ".roo0", ".ooo.", "....."}, api.West},
		{[]string{"..#..", ".#0#.", ".....", "..r.."}, api.North},
	} {
		checkMonster(t, strings.Join(x.rows, "/"), drawn(x.rows...), rowOf('r'), x.want)
	}
}

// TestMonsterWanders: each number that the die may show, and what is that way: free (each kind), a wall, one who stands there.
func TestMonsterWanders(t *testing.T) {
	for _, way := range ways {
		for shows := range 8 {
			w := open()
			row := put(&w, 'o', 7, 7)
			w.Frame = frameOf(t, w.Seed, row, shows)
			goes := api.Stay
			if shows >= 1 && shows <= 4 {
				goes = shows
			}
			checkOnce(t, "free all around", w, row, goes)
			if shows == way.way {
				goes = api.Stay
			}
			v := twinOf(w)
			v.Cells[at(7+way.dx, 7+way.dy)] = api.CWall
			checkOnce(t, "a wall on one side", v, row, goes)
			for _, sign := range []byte("rRoMm") {
				v = twinOf(w)
				put(&v, sign, 7+way.dx, 7+way.dy)
				checkOnce(t, "one on one side", v, row, goes)
			}
		}
	}
}

func TestMonsterWandersOverKinds(t *testing.T) {
	for _, way := range ways {
		for kind := range 6 {
			w := open()
			if stair := slices.Index(w.Cells, byte(kind)); kind == api.CUp || kind == api.CDown {
				w.Cells[stair] = api.CFloor
			}
			w.Cells[at(7+way.dx, 7+way.dy)] = byte(kind)
			row := put(&w, 'm', 7, 7)
			w.Frame = frameOf(t, w.Seed, row, way.way)
			want := way.way
			if kind == api.CWall {
				want = api.Stay
			}
			checkOnce(t, "over "+signs[kind:kind+1], w, row, want)
		}
	}
}

// TestMonsterAtTheEdge: off the floor there is nothing to walk on, though the number beside it be another cell's.
func TestMonsterAtTheEdge(t *testing.T) {
	for cell := range api.Cells {
		x, y := cell%24, cell/24
		w := open()
		row := put(&w, 'r', x, y)
		for _, way := range ways {
			w.Frame = frameOf(t, w.Seed, row, way.way)
			want := way.way
			if x+way.dx < 0 || x+way.dx > 23 || y+way.dy < 0 || y+way.dy > 15 {
				want = api.Stay
			}
			checkOnce(t, "all over the floor", w, row, want)
		}
	}
}

// TestMonsterWandersPastRows: a free row may hold a place; nobody stands there.
func TestMonsterWandersPastRows(t *testing.T) {
	w := open()
	row := put(&w, 'r', 7, 7)
	for i := range w.Ents {
		if w.Ents[i].Kind == api.ENone {
			w.Ents[i] = api.Ent{Gen: i, X: 7 + i%2, Y: 6 + i%2}
		}
	}
	for _, way := range ways {
		w.Frame = frameOf(t, w.Seed, row, way.way)
		if got := Monster(w, row); got != way.way {
			t.Errorf("P901: free rows that hold places: %d, not %d", got, way.way)
		}
	}
	// The zero row stands nowhere, not at (0, 0).
	w = open()
	row = put(&w, 'r', 1, 0)
	w.Frame = frameOf(t, w.Seed, row, api.West)
	checkOnce(t, "free rows", w, row, api.West)
}

// TestMonsterDieHangsOnAll: on seed, frame, row, and 90, in this order.
func TestMonsterDieHangsOnAll(t *testing.T) {
	seen := [8]int{}
	for _, seed := range []int64{0, 1, -1, 90, math.MaxInt64, math.MinInt64} {
		for _, frame := range []int{0, 1, 2, 8, 89, 90, 91, 1 << 20, 1<<30 - 1} {
			for row := range api.MaxEnts {
				w := open()
				w.Seed, w.Frame = seed, frame
				w.Ents[row] = ents.Stats(api.ERat + row%3)
				w.Ents[row].X, w.Ents[row].Y = 3+row%8, 4+row%5
				want := dice.Die(8, seed, frame, row, 90)
				if seen[want]++; want > 4 {
					want = api.Stay
				}
				checkOnce(t, "free all around", w, row, want)
			}
		}
	}
	if slices.Min(seen[:]) == 0 {
		t.Errorf("P901: what the dice showed: %v", seen)
	}
}

// Robot.

func bag(seat, kind, slot int) api.Item {
	return api.Item{Kind: kind, Where: api.WBag, A: seat, B: slot}
}
func sword(seat int) api.Item       { return api.Item{Kind: api.ISword, Where: api.WWorn, A: seat} }
func mail(seat int) api.Item        { return api.Item{Kind: api.IMail, Where: api.WWorn, A: seat, B: 1} }
func lies(kind, x, y int) api.Item  { return api.Item{Kind: kind, Where: api.WCell, A: x, B: y} }
func shelf(kind, slot int) api.Item { return api.Item{Kind: kind, Where: api.WShop, A: slot} }

// with is a world with some more items, from the row on that is named, round to the first.
func with(w api.World, from int, items ...api.Item) api.World {
	w = twinOf(w)
	for _, item := range items {
		for w.Items[from%api.MaxItems] != (api.Item{}) {
			from++
		}
		w.Items[from%api.MaxItems] = item
	}
	return w
}

// filled is a bag without a free slot, and without a potion.
func filled(seat int) []api.Item {
	return []api.Item{bag(seat, api.ISword, 2), bag(seat, api.IMail, 0), bag(seat, api.ISword, 3), bag(seat, api.IMail, 1)}
}

// hurt is a world in which the hero of a seat has so many HP.
func hurt(w api.World, seat, hp int) api.World {
	w = twinOf(w)
	w.Ents[rowOf("0123"[seat])].HP = hp
	return w
}

func TestRobotWithoutAHero(t *testing.T) {
	w := drawn("..0.>", ".r2r.", "..o..")
	w = with(w, 0, bag(1, api.IPotion, 0), bag(3, api.IPotion, 0), lies(api.IGold, 0, 0))
	for _, seat := range []int{1, 3, -1, -2, 4, 5, 8, 13, 29, 31, 32, 33, 100} {
		checkRobot(t, "a seat without a hero, or none", w, seat, api.Stay)
	}
	for seat := range api.Seats {
		for _, far := range ends(seat) {
			checkRobot(t, "a seat far away", w, far, api.Stay)
		}
	}
	for seat := -1; seat < 5; seat++ {
		checkRobot(t, "monsters alone", drawn("r.>"), seat, api.Stay)
		checkRobot(t, "nobody at all", drawn("..>"), seat, api.Stay)
	}
	// A free row has no hero, whatever else it holds.
	v := drawn("0.>")
	v.Ents[rowOf('0')].Kind = api.ENone
	if got := Robot(v, 0); got != api.Stay {
		t.Errorf("P902: a free row: %d", got)
	}
	v.Ents = nil
	if got := Robot(v, 0); got != api.Stay {
		t.Errorf("P902: no rows: %d", got)
	}
}

// seats tells each seat with its sign.
func seats(yield func(int, string) bool) {
	for seat, sign := range []string{"0", "1", "2", "3"} {
		if !yield(seat, sign) {
			return
		}
	}
}

// TestRobotDrinks: at a third of Max (6 of 20) or less, with a potion in its bag, in whichever slot and row.
func TestRobotDrinks(t *testing.T) {
	for seat, sign := range seats {
		for hp := 1; hp <= 20; hp++ {
			w, want := hurt(drawn(sign+"...>"), seat, hp), api.East
			if hp <= 6 {
				want = api.Use
			}
			for slot := range api.Bag {
				for _, row := range []int{0, 17, 39} {
					checkRobot(t, "a potion alone", with(w, row, bag(seat, api.IPotion, slot)), seat, want)
				}
				full := slices.DeleteFunc(filled(seat), func(item api.Item) bool { return item.B == slot })
				checkRobot(t, "a potion among others", with(w, 5, append(full, bag(seat, api.IPotion, slot))...), seat, want)
			}
		}
	}
}

// TestRobotBounds: the HP that the document names, one by one.
func TestRobotBounds(t *testing.T) {
	for hp, want := range map[int]int{1: api.Use, 5: api.Use, 6: api.Use, 7: api.East, 8: api.East, 20: api.East} {
		w := hurt(drawn("0...>"), 0, hp)
		checkRobot(t, "a potion in its bag", with(w, 0, bag(0, api.IPotion, 0)), 0, want)
		checkRobot(t, "no potion in its bag", w, 0, api.East)
	}
}

// TestRobotWithoutAPotion: what is not a potion, or not in its bag, is of no use.
func TestRobotWithoutAPotion(t *testing.T) {
	for seat, sign := range seats {
		for hp := 1; hp <= 20; hp++ {
			w := hurt(drawn(sign+"..$>"), seat, hp)
			checkRobot(t, "nothing", w, seat, api.East)
			checkRobot(t, "no potion", with(w, 3, append(filled(seat), sword(seat), mail(seat))...), seat, api.East)
			for slot := range api.Bag {
				checkRobot(t, "a sword", with(w, 3, bag(seat, api.ISword, slot)), seat, api.East)
				checkRobot(t, "a mail", with(w, 3, bag(seat, api.IMail, slot)), seat, api.East)
				for other := range api.Seats {
					if other != seat {
						checkRobot(t, "a potion of another seat", with(w, 3, bag(other, api.IPotion, slot)), seat, api.East)
					}
				}
			}
			for x := 1; x < 5; x++ {
				checkRobot(t, "a potion on a cell", with(w, 3, lies(api.IPotion, x, 0)), seat, api.East)
			}
			checkRobot(t, "a potion at it, no room", with(w, 3, append(filled(seat), lies(api.IPotion, 0, 0))...), seat, api.East)
			for slot := range api.Shelf {
				checkRobot(t, "a potion in the shop", with(w, 3, shelf(api.IPotion, slot)), seat, api.East)
			}
		}
	}
}

// TestRobotFights: a monster of each kind beside it, on each side.
func TestRobotFights(t *testing.T) {
	for seat, sign := range seats {
		for _, way := range ways {
			for _, foe := range []byte("roRmM") {
				w := open()
				put(&w, sign[0], 7, 7)
				put(&w, foe, 7+way.dx, 7+way.dy)
				checkRobot(t, "a monster beside it", w, seat, way.way)
				for hp := 1; hp <= 20; hp++ {
					checkRobot(t, "a monster beside it, hurt", hurt(w, seat, hp), seat, way.way)
				}
				// At the edge too, and on the stair.
				w = open()
				w.Cells[at(0, 15)], w.Cells[at(1, 1)] = api.CFloor, api.CDown
				put(&w, sign[0], 1, 1)
				put(&w, foe, 1+way.dx, 1+way.dy)
				checkRobot(t, "a monster beside it, on CDown", w, seat, way.way)
			}
		}
	}
}

// TestRobotAmongSeveral: each set of sides on which monsters stand, heroes on the others or nobody: the first way of a monster.
func TestRobotAmongSeveral(t *testing.T) {
	for sides := range 81 {
		w := open()
		put(&w, '2', 7, 7)
		want, heroes := api.Stay, "013"
		for i, way := range slices.Backward(ways) {
			switch sides / []int{1, 3, 9, 27}[i] % 3 {
			case 1:
				put(&w, "romM"[i], 7+way.dx, 7+way.dy)
				want = way.way
			case 2:
				if heroes != "" {
					put(&w, heroes[0], 7+way.dx, 7+way.dy)
					heroes = heroes[1:]
				}
			}
		}
		if want == api.Stay {
			want = toward(w, 7, 7, at(0, 15))
		}
		checkRobot(t, "several beside it", w, 2, want)
	}
	for _, x := range []struct {
		rows []string
		want int
	}{
		{[]string{".r.", "o0m", ".R."}, api.North}, {[]string{"...", "o0m", ".R."}, api.East}, {[]string{"...", "o0.", ".R."}, api.South}, {[]string{"...", "o0.", "..."}, api.West},
		{[]string{".1.", "o0m", ".R."}, api.East}, {[]string{".1.", "o02", ".R."}, api.South}, {[]string{".1.", "o02", ".3."}, api.West}, {[]string{".r.", "10m", ".3."}, api.North},
	} {
		checkRobot(t, strings.Join(x.rows, "/"), drawn(x.rows...), 0, x.want)
	}
}

// TestRobotLetsOthersBe: heroes beside it, and monsters that are not.
func TestRobotLetsOthersBe(t *testing.T) {
	for _, x := range []struct {
		rows []string
		want int
	}{
		{[]string{"01..>"}, api.Stay}, {[]string{"01.>", "...."}, api.South}, {[]string{"10..>"}, api.East}, {[]string{".1...", "30..>", ".2..."}, api.East}, {[]string{"...", "10>", "..."}, api.East},
		{[]string{"r.o..", ".0..>", "m.R.."}, api.East}, {[]string{"r....", ".0..>", "....."}, api.East}, {[]string{"..r..", ".0..>", "....."}, api.East}, {[]string{".....", ".0..>", "r...."}, api.East}, {[]string{".....", ".0..>", "..r.."}, api.East},
		{[]string{"..r...", "......", "r.0.r>", "......", "..r..."}, api.North}, {[]string{"0.r.>", "....."}, api.East}, {[]string{".0r.>", "....."}, api.East}, {[]string{"..r", "...", "0..", "...", "..>"}, api.East},
	} {
		checkRobot(t, strings.Join(x.rows, "/"), drawn(x.rows...), 0, x.want)
	}
	// A free row that holds a place is nobody.
	w := drawn(".0..>")
	w.Ents[3] = api.Ent{Seat: 1, HP: 3}
	if got := Robot(w, 0); got != api.East {
		t.Errorf("P902: a free row in the west: %d", got)
	}
}

// TestRobotAtTheEdge: the number of the cell beside it may be another cell's, where a monster stands.
func TestRobotAtTheEdge(t *testing.T) {
	for _, x := range []struct{ x, y, foeX, foeY int }{{23, 4, 0, 5}, {0, 5, 23, 4}, {23, 15, 0, 15}, {0, 7, 23, 7}, {4, 15, 4, 0}, {4, 0, 4, 15}} {
		w := open()
		put(&w, '0', x.x, x.y)
		put(&w, 'r', x.foeX, x.foeY)
		checkRobot(t, "a monster on the other side", w, 0, toward(w, x.x, x.y, at(0, 15)))
	}
}

// TestRobotPicks: each kind at it, with each number of free slots, of whichever row.
func TestRobotPicks(t *testing.T) {
	for seat, sign := range seats {
		for kind := api.IPotion; kind <= api.IGold; kind++ {
			for held := range 16 {
				w := drawn("......", "."+sign+"..>.")
				for _, item := range filled(seat) {
					if held>>item.B&1 == 1 {
						w = with(w, 11*item.B, item)
					}
				}
				want := api.Pick
				if held == 15 && kind != api.IGold {
					want = api.East
				}
				checkRobot(t, "nothing at it", w, seat, api.East)
				for _, row := range []int{0, 20, 39} {
					checkRobot(t, "an item at it", with(w, row, lies(kind, 1, 1)), seat, want)
				}
				for _, way := range append(ways[:1:1], ways[1], ways[3]) {
					checkRobot(t, "an item a cell away", with(w, 2, lies(kind, 1+way.dx, 1+way.dy)), seat, api.East)
				}
			}
		}
	}
}

// TestRobotPicksByItsOwnBag: those of others, what is worn and what the shop has take no slot of it; nor are they at it.
func TestRobotPicksByItsOwnBag(t *testing.T) {
	w := drawn("0123..>", "..$....")
	for seat := range api.Seats {
		items := []api.Item{sword(seat), mail(seat), shelf(api.IPotion, 0), shelf(api.IMail, 1), shelf(api.ISword, 2)}
		for other := range api.Seats {
			if other != seat {
				items = append(items, filled(other)...)
			}
		}
		v := with(w, 9, items...)
		checkRobot(t, "nothing at it, others have much", v, seat, firstStep(v, seat))
		v = with(v, 0, lies(api.IMail, seat, 0))
		checkRobot(t, "room in its own bag", v, seat, api.Pick)
		for other := range api.Seats {
			if other != seat {
				checkRobot(t, "an item at another", v, other, firstStep(v, other))
			}
		}
		v = with(v, 0, filled(seat)...)
		checkRobot(t, "no room in its own bag", v, seat, firstStep(v, seat))
	}
	// Numbers of a place and of a bag may be the same.
	v := with(drawn("0.>", "..."), 0, bag(0, api.ISword, 0), sword(0), bag(1, api.ISword, 0), mail(0))
	checkRobot(t, "what it has does not lie at it", v, 0, api.East)
	v = with(drawn("...", "0.>"), 0, bag(0, api.ISword, 1), mail(0))
	checkRobot(t, "what it has does not lie at it", v, 0, api.East)
	v = with(drawn("..", "0.>"), 0, lies(api.IGold, 1, 0), lies(api.IPotion, 0, 0), lies(api.IMail, 1, 1))
	checkRobot(t, "items at the cells around it", v, 0, api.East)
}

// firstStep is what a hero does with nothing at hand: it goes for the stair.
func firstStep(w api.World, seat int) int {
	e := w.Ents[rowOf("0123"[seat])]
	return toward(w, e.X, e.Y, slices.Index(w.Cells, api.CDown))
}

// TestRobotOnTheStair is the chapter's example, and of each seat, however hurt.
func TestRobotOnTheStair(t *testing.T) {
	for seat, sign := range seats {
		w := drawn("...", ".>.", "...")
		put(&w, sign[0], 1, 1)
		checkRobot(t, "on CDown", w, seat, api.Descend)
		for hp := 1; hp <= 20; hp++ {
			checkRobot(t, "on CDown, hurt", hurt(w, seat, hp), seat, api.Descend)
		}
		// No other cell is one to descend from.
		for _, kind := range []string{".", "+", "<", "$"} {
			w := drawn(kind+"..", "..>")
			put(&w, sign[0], 0, 0)
			checkRobot(t, "on "+kind, w, seat, api.East)
		}
	}
}

// TestRobotGoesForTheStair: beside it, far from it, with others in the way, with none.
func TestRobotGoesForTheStair(t *testing.T) {
	for _, x := range []struct {
		rows []string
		want int
	}{
		{[]string{">", "0"}, api.North}, {[]string{"0>"}, api.East}, {[]string{"0", ">"}, api.South}, {[]string{">0"}, api.West},
		{[]string{">.", ".0"}, api.North}, {[]string{".>", "0."}, api.North}, {[]string{"0.", ".>"}, api.East}, {[]string{".0", ">."}, api.South},
		{[]string{"0.......................", "#######################.", "#######################>"}, api.East}, {[]string{".......................0", ".#######################", ">"}, api.West},
		{[]string{"0#>", ".#.", "..."}, api.South}, {[]string{"...", ".#.", "0#>"}, api.North}, {[]string{"..#>", ".#0#", "..#."}, api.Stay}, {[]string{"0#>"}, api.Stay}, {[]string{"0...."}, api.Stay},
		{[]string{"0+<$.+>"}, api.East}, {[]string{"0.r..>"}, api.Stay}, {[]string{"0.1..>"}, api.Stay}, {[]string{"0.r..>", "......"}, api.East}, {[]string{"01...>", "......"}, api.South}, {[]string{"......", "0.1..>"}, api.North},
		{[]string{"0..1", "..r>", "...."}, api.East}, {[]string{"....", "1#2.", ".0r>"}, api.East},
		// The way round another one is longer than the one over it, and leads back.
		{[]string{"...", ".#.", "0#1", ".#.", ".#>", "..."}, api.South}, {[]string{"...", ".#.", "0#.", ".#.", ".#>", ".2."}, api.North}, {[]string{"...", ".#.", "0#.", ".#.", "1#>", "..."}, api.North},
	} {
		checkRobot(t, strings.Join(x.rows, "/"), drawn(x.rows...), 0, x.want)
	}
}

// TestRobotAndATakenStair: who stands on it is waited for, or fought.
func TestRobotAndATakenStair(t *testing.T) {
	w := drawn("0..>")
	put(&w, '1', 3, 0)
	checkRobot(t, "a hero on CDown", w, 0, api.East)
	w = drawn(".0>", "...")
	put(&w, '1', 2, 0)
	checkRobot(t, "a hero on CDown, beside it", w, 0, api.Stay)
	w = drawn(".0>", "...")
	put(&w, 'r', 2, 0)
	checkRobot(t, "a monster on CDown, beside it", w, 0, api.East)
	w = drawn(".0.>", "....")
	put(&w, 'r', 3, 0)
	checkRobot(t, "a monster on CDown", w, 0, api.East)
}

// TestRobotDoesTheFirst: each set of the four rules that may hold at once, and none of them.
func TestRobotDoesTheFirst(t *testing.T) {
	for seat, sign := range seats {
		for set := range 16 {
			rows := []string{"..>..", "....."}
			if set&8 != 0 {
				rows = []string{".....", "..>.."}
			}
			w := drawn(append(rows, ".....")...)
			put(&w, sign[0], 2, 1)
			want := []int{api.North, api.Descend}[set>>3]
			if set&4 != 0 {
				w, want = with(w, 7, lies(api.ISword, 2, 1)), api.Pick
			}
			if set&2 != 0 {
				want = api.South
				put(&w, 'o', 2, 2)
			}
			w = with(w, 30, bag(seat, api.IPotion, 1))
			if set&1 != 0 {
				w, want = hurt(w, seat, 6), api.Use
			}
			checkRobot(t, "several rules", w, seat, want)
			// What can't be picked up does not count as lying there.
			if set&7 == 4 {
				full := with(w, 0, bag(seat, api.IMail, 0), bag(seat, api.IMail, 2), bag(seat, api.IMail, 3))
				checkRobot(t, "no room", full, seat, []int{api.North, api.Descend}[set>>3])
			}
		}
	}
}

// TestNothingElseCounts: what the promises do not name changes no answer.
func TestNothingElseCounts(t *testing.T) {
	w := with(drawn("....1...", ".0..r..2", "...m....", "3......>"), 0, lies(api.IGold, 1, 1), bag(2, api.IPotion, 3), lies(api.IMail, 4, 1))
	robots := []int{api.Pick, api.South, api.South, api.East}
	monsters := map[int]int{rowOf('r'): api.North, rowOf('m'): api.North}
	r := rand.New(rand.NewPCG(9, 1))
	for range 500 {
		v := twinOf(w)
		v.Seed, v.Frame, v.Floor, v.State = int64(r.Uint64()), r.IntN(1<<30), 1+r.IntN(3), r.IntN(3)
		for seat := range v.Gold {
			v.Gold[seat] = r.IntN(1000)
		}
		for row, e := range v.Ents {
			v.Ents[row].Gen = r.IntN(256)
			if e.Kind != api.ENone {
				v.Ents[row].Poison, v.Ents[row].Stun, v.Ents[row].HP = r.IntN(10), r.IntN(10), 1+r.IntN(e.Max)
			}
		}
		v.Ents[rowOf('2')].HP = 7 + r.IntN(14)
		for seat, want := range robots {
			checkRobot(t, "other numbers", v, seat, want)
		}
		for row, want := range monsters {
			checkOnce(t, "other numbers", v, row, want)
		}
	}
}

// What the words say, gone through in the plainest way.

func walkable(cells []byte, x, y int) bool {
	return x >= 0 && x < 24 && y >= 0 && y < 16 && cells[at(x, y)] >= 1 && cells[at(x, y)] <= 5
}

func someone(l []api.Ent, x, y int) bool {
	return slices.ContainsFunc(l, func(e api.Ent) bool { return e.Kind != api.ENone && e.X == x && e.Y == y })
}

// toward is P602 of one target: each cell's number is lowered till none can be lowered any more.
func toward(w api.World, x, y, target int) int {
	far := slices.Repeat([]int{1 << 20}, api.Cells)
	far[target] = 0
	for again := true; again; {
		again = false
		for cell := range far {
			cx, cy := cell%24, cell/24
			if !walkable(w.Cells, cx, cy) || someone(w.Ents, cx, cy) && (cx != x || cy != y) {
				continue
			}
			for _, way := range ways {
				if nx, ny := cx+way.dx, cy+way.dy; walkable(w.Cells, nx, ny) && far[at(nx, ny)]+1 < far[cell] {
					far[cell], again = far[at(nx, ny)]+1, true
				}
			}
		}
	}
	for _, way := range ways {
		nx, ny := x+way.dx, y+way.dy
		if walkable(w.Cells, nx, ny) && far[at(nx, ny)] == far[at(x, y)]-1 && !someone(w.Ents, nx, ny) {
			return way.way
		}
	}
	return api.Stay
}

// hidden tells whether a cell between two is a wall or a door: a cell of a line is where its point, a half further on, is rounded down.
func hidden(cells []byte, a, b api.Ent) bool {
	n := max(a.X-b.X, b.X-a.X, a.Y-b.Y, b.Y-a.Y)
	for k := 1; k < n; k++ {
		x := (2*a.X*n + 2*k*(b.X-a.X) + n) / (2 * n)
		y := (2*a.Y*n + 2*k*(b.Y-a.Y) + n) / (2 * n)
		if kind := cells[at(x, y)]; kind == api.CWall || kind == api.CDoor {
			return true
		}
	}
	return false
}

// monsterDoes is P901; and why.
func monsterDoes(w api.World, row int) (int, string) {
	if row < 0 || row > 31 || w.Ents[row].Kind < api.ERat {
		return api.Stay, "none"
	}
	e, found, least := w.Ents[row], -1, 37
	for i, hero := range w.Ents {
		dx, dy := hero.X-e.X, hero.Y-e.Y
		if hero.Kind != api.EHero || dx*dx+dy*dy > 36 || hidden(w.Cells, e, hero) {
			continue
		}
		if far := dx*dx + dy*dy; far < least || far == least && hero.Seat < w.Ents[found].Seat {
			found, least = i, far
		}
	}
	if found < 0 {
		for _, way := range ways {
			if way.way == dice.Die(8, w.Seed, w.Frame, row, 90) && walkable(w.Cells, e.X+way.dx, e.Y+way.dy) && !someone(w.Ents, e.X+way.dx, e.Y+way.dy) {
				return way.way, "wanders"
			}
		}
		return api.Stay, "rests"
	}
	hero := w.Ents[found]
	for _, way := range ways {
		if e.X+way.dx == hero.X && e.Y+way.dy == hero.Y {
			return way.way, "strikes"
		}
	}
	if way := toward(w, e.X, e.Y, at(hero.X, hero.Y)); way != api.Stay {
		return way, "hunts"
	}
	return api.Stay, "waits"
}

// robotDoes is P902; and why.
func robotDoes(w api.World, seat int) (int, string) {
	row := slices.IndexFunc(w.Ents, func(e api.Ent) bool { return e.Kind == api.EHero && e.Seat == seat })
	if row < 0 {
		return api.Stay, "no hero"
	}
	e := w.Ents[row]
	has, potion, gold, lies := 0, false, false, false
	for _, item := range w.Items {
		if item.Where == api.WBag && item.A == seat {
			has, potion = has+1, potion || item.Kind == api.IPotion
		}
		if item.Where == api.WCell && item.A == e.X && item.B == e.Y {
			lies, gold = true, item.Kind == api.IGold
		}
	}
	if e.HP*3 <= e.Max && potion {
		return api.Use, "drinks"
	}
	for _, way := range ways {
		for _, foe := range w.Ents {
			if foe.Kind >= api.ERat && foe.X == e.X+way.dx && foe.Y == e.Y+way.dy {
				return way.way, "fights"
			}
		}
	}
	switch {
	case gold:
		return api.Pick, "picks gold"
	case lies && has < 4:
		return api.Pick, "picks"
	case w.Cells[at(e.X, e.Y)] == api.CDown:
		return api.Descend, "descends"
	}
	if way := toward(w, e.X, e.Y, slices.Index(w.Cells, api.CDown)); way != api.Stay {
		return way, "goes"
	}
	return api.Stay, "stuck"
}

// cave is a floor with so many walls of 10, and both stairs.
func cave(r *rand.Rand, walls int) []byte {
	cells := make([]byte, api.Cells)
	for i := range cells {
		if r.IntN(10) >= walls {
			cells[i] = []byte{api.CFloor, api.CFloor, api.CFloor, api.CDoor, api.CShop}[r.IntN(5)]
		}
	}
	up := r.IntN(api.Cells)
	cells[up], cells[(up+1+r.IntN(api.Cells-1))%api.Cells] = api.CUp, api.CDown
	return cells
}

// anyWorld is one that may be, by chance: a cave or a floor of gen, with heroes and monsters close together, and items on cells, in bags and worn.
func anyWorld(t *testing.T, r *rand.Rand) api.World {
	t.Helper()
	w := bare()
	w.Seed, w.Frame, w.Cells = int64(r.Uint64()), r.IntN(1<<30), cave(r, r.IntN(5))
	if r.IntN(3) == 0 {
		level, err := gen.Make(w.Seed, w.Floor)
		if err != api.OK {
			t.Fatal(err)
		}
		w.Cells = level.Cells
	}
	near := r.IntN(api.Cells)
	if r.IntN(3) == 0 {
		near = slices.Index(w.Cells, api.CDown)
	}
	rows := r.Perm(api.MaxEnts)
	for i := range 4 + r.IntN(24) {
		x, y := near%24+r.IntN(9)-4, near/24+r.IntN(9)-4
		if r.IntN(12) == 0 {
			x, y = near%24, near/24
		}
		if !walkable(w.Cells, x, y) || someone(w.Ents, x, y) {
			continue
		}
		e := ents.Stats(2 + r.IntN(3))
		if i < 4 {
			e = ents.Stats(api.EHero)
			e.Seat = i
		}
		e.X, e.Y, e.Gen, e.HP = x, y, r.IntN(256), 1+r.IntN(e.Max)
		w.Ents[rows[i]] = e
	}
	return littered(w, r)
}

// littered is a world with items, each laid if it may be.
func littered(w api.World, r *rand.Rand) api.World {
	lay := func(item api.Item) {
		v := w
		if v.Items = goods.Lay(w.Items, item); goods.Check(v) {
			w = v
		}
	}
	for _, e := range w.Ents {
		if e.Kind == api.EHero && r.IntN(3) == 0 {
			lay(lies(1+r.IntN(4), e.X, e.Y))
		}
	}
	for seat := range api.Seats {
		for slot := range api.Bag {
			if r.IntN(4) > 0 {
				lay(bag(seat, 1+r.IntN(3), slot))
			}
		}
	}
	for range 12 {
		lay(lies(1+r.IntN(4), r.IntN(24), r.IntN(16)))
		lay([]api.Item{sword(r.IntN(4)), mail(r.IntN(4)), shelf(api.IPotion, r.IntN(3))}[r.IntN(3)])
	}
	r.Shuffle(len(w.Items), func(i, j int) { w.Items[i], w.Items[j] = w.Items[j], w.Items[i] })
	return w
}

func TestAsTheWordsSay(t *testing.T) {
	r := rand.New(rand.NewPCG(9, 2))
	counts := map[string]int{}
	for range 1500 {
		w := anyWorld(t, r)
		if !mayBe(w) {
			t.Fatal("a world by chance is none that may be")
		}
		was := twinOf(w)
		for row := -1; row <= api.MaxEnts; row++ {
			want, why := monsterDoes(w, row)
			if counts[why]++; Monster(w, row) != want {
				t.Fatalf("P901: row %d %s: %d, not %d: %+v", row, why, Monster(w, row), want, w)
			}
		}
		for seat := -1; seat <= api.Seats; seat++ {
			want, why := robotDoes(w, seat)
			if counts[why]++; Robot(w, seat) != want {
				t.Fatalf("P902: seat %d %s: %d, not %d: %+v", seat, why, Robot(w, seat), want, w)
			}
		}
		if !same(w, was) {
			t.Fatal("P2: the world that was handed in is another one")
		}
	}
	// The worlds are such that all that can be done is.
	for _, why := range []string{"none", "wanders", "rests", "strikes", "hunts", "waits", "no hero", "drinks", "fights", "picks gold", "picks", "descends", "goes", "stuck"} {
		if counts[why] < 30 {
			t.Errorf("%s: %d times only", why, counts[why])
		}
	}
}

// Robots on their way.

// moved is a world behind what the entity of a row does, as far as it goes and takes things; a monster in a hero's way falls.
func moved(w api.World, row, input int) api.World {
	if e := w.Ents[row]; e.Kind == api.EHero {
		w = goods.Do(w, e.Seat, input)
	}
	w = twinOf(w)
	e := &w.Ents[row]
	for _, way := range ways {
		if way.way != input {
			continue
		}
		other := ents.At(w.Ents, e.X+way.dx, e.Y+way.dy)
		if other < 0 {
			e.X, e.Y = e.X+way.dx, e.Y+way.dy
		} else if e.Kind == api.EHero {
			w.Ents = ents.Free(w.Ents, other)
		}
	}
	return w
}

// floorOf is a floor of gen with its monsters and items, and a hero of each seat that is named, on the up stair or beside it.
func floorOf(t *testing.T, seed int64, heroes string) api.World {
	t.Helper()
	w := bare()
	w.Seed, w.Floor = seed, 1+int(seed)%api.Floors
	level, err := gen.Make(seed, w.Floor)
	if err != api.OK {
		t.Fatal(err)
	}
	w.Cells, w.Items = level.Cells, goods.Lay(w.Items, level.Items...)
	for _, e := range level.Ents {
		if w.Ents, _, err = ents.Spawn(w.Ents, e); err != api.OK {
			t.Fatal(err)
		}
	}
	up := slices.Index(w.Cells, api.CUp)
	for _, sign := range []byte(heroes) {
		for far := 0; far < 9; far++ {
			x, y := up%24+far%3-1, up/24+far/3-1
			if walkable(w.Cells, x, y) && !someone(w.Ents, x, y) {
				put(&w, sign, x, y)
				break
			}
		}
	}
	return w
}

// frame is what all robots and monsters do, one by one, held against the words; and whether one descends.
func frame(t *testing.T, w api.World) (api.World, bool) {
	t.Helper()
	for seat := range api.Seats {
		row := ents.Hero(w.Ents, seat)
		input := Robot(w, seat)
		if want, why := robotDoes(w, seat); input != want {
			t.Fatalf("P902: seed %d, seat %d %s: %d, not %d", w.Seed, seat, why, input, want)
		}
		if input == api.Descend {
			return w, w.Cells[at(w.Ents[row].X, w.Ents[row].Y)] == api.CDown
		}
		if row >= 0 {
			w = moved(w, row, input)
		}
	}
	for row := range w.Ents {
		input := Monster(w, row)
		if want, why := monsterDoes(w, row); input != want {
			t.Fatalf("P901: seed %d, row %d %s: %d, not %d", w.Seed, row, why, input, want)
		}
		w = moved(w, row, input)
	}
	if w.Frame++; !mayBe(w) {
		t.Fatalf("seed %d, frame %d: robots or monsters go where they may not", w.Seed, w.Frame)
	}
	return w, false
}

// TestRobotComesDown: on floors of gen, alone or not, robots fight and make their way to the stair, and one descends there.
func TestRobotComesDown(t *testing.T) {
	for seed := range int64(40) {
		for _, heroes := range []string{"0", "3", "12", "0123"} {
			w, down := floorOf(t, seed, heroes), false
			for w.Frame = 0; w.Frame < 1000 && !down; {
				w, down = frame(t, w)
			}
			if !down {
				t.Errorf("P902: seed %d, heroes %s: nobody comes down", seed, heroes)
			}
		}
	}
}

// TestRobotsAlike is P903: wherever the world is the same, whatever was asked ahead of it and however its lists came about.
func TestRobotsAlike(t *testing.T) {
	r := rand.New(rand.NewPCG(9, 3))
	for range 200 {
		w := anyWorld(t, r)
		var robots, monsters []int
		for seat := range api.Seats {
			robots = append(robots, Robot(w, seat))
		}
		for row := range w.Ents {
			monsters = append(monsters, Monster(w, row))
		}
		// Other worlds are asked for in between, and the same one with spare room, in another order.
		for i := api.MaxEnts - 1; i >= 0; i-- {
			other := anyWorld(t, r)
			Monster(other, i)
			Robot(other, i%4)
			v, _ := spare(twinOf(w))
			if Monster(v, i) != monsters[i] || Robot(v, i%4) != robots[i%4] {
				t.Fatal("P903: the same world, another answer")
			}
		}
	}
}

// What holds everywhere.

// spare is a world whose lists have spare room, with numbers in it; and that world with this room.
func spare(w api.World) (api.World, api.World) {
	whole := w
	whole.Cells = append(slices.Clone(w.Cells), api.CDown, api.CUp, 7)
	whole.Ents = append(slices.Clone(w.Ents), api.Ent{Kind: api.EHero, X: 1, Y: 1, HP: 20, Max: 20}, api.Ent{Kind: api.ERat, X: 2, Y: 1})
	whole.Items = append(slices.Clone(w.Items), lies(api.IGold, 1, 1), bag(0, api.IPotion, 0), bag(1, api.IPotion, 1))
	w.Cells, w.Ents, w.Items = whole.Cells[:len(w.Cells)], whole.Ents[:len(w.Ents)], whole.Items[:len(w.Items)]
	return w, whole
}

// TestWorldStays is P2: what is handed in stays, its spare room too.
func TestWorldStays(t *testing.T) {
	r := rand.New(rand.NewPCG(9, 4))
	few := drawn("r.0", "..>")
	few.Cells, few.Ents, few.Items = few.Cells[:30], few.Ents[:30], few.Items[:2]
	worlds := []api.World{few, {}, bare(), open(), hurt(with(drawn("r0>"), 0, bag(0, api.IPotion, 0)), 0, 1), with(drawn("0.r.>"), 0, lies(api.IGold, 0, 0))}
	for range 200 {
		worlds = append(worlds, anyWorld(t, r))
	}
	for _, start := range worlds {
		w, whole := spare(start)
		was := twinOf(whole)
		for row := -1; row < 35; row++ {
			first, again := Monster(w, row), Monster(w, row)
			if first != again {
				t.Fatalf("P3: row %d: %d, then %d", row, first, again)
			}
		}
		for seat := -1; seat < 6; seat++ {
			first, again := Robot(w, seat), Robot(w, seat)
			if first != again {
				t.Fatalf("P3: seat %d: %d, then %d", seat, first, again)
			}
		}
		if !same(whole, was) {
			t.Fatal("P2: the world that was handed in is another one")
		}
	}
}

// TestNoListIsAnEmptyOne is P2 of no list.
func TestNoListIsAnEmptyOne(t *testing.T) {
	none, empty := bare(), bare()
	none.Cells, none.Ents, none.Items = nil, nil, nil
	empty.Cells, empty.Ents, empty.Items = []byte{}, []api.Ent{}, []api.Item{}
	for _, w := range []api.World{none, empty} {
		for n := -1; n < 34; n++ {
			if Monster(w, n) != api.Stay || Robot(w, n) != api.Stay {
				t.Errorf("P2: %d of no lists", n)
			}
		}
	}
	for _, items := range [][]api.Item{nil, {}} {
		w := hurt(drawn("0r.>"), 0, 1)
		if w.Items = items; Robot(w, 0) != api.East || Monster(w, rowOf('r')) != api.West {
			t.Error("P2: no items")
		}
	}
	for _, cells := range [][]byte{nil, {}} {
		w := drawn("0r.>")
		if w.Cells = cells; Robot(w, 0) != api.East || Monster(w, rowOf('r')) != api.West {
			t.Error("P2: no cells")
		}
	}
}

// TestAnyWorld is P1 and P2 of worlds that may not be: every call ends and leaves what it was given.
func TestAnyWorld(t *testing.T) {
	r := rand.New(rand.NewPCG(9, 9))
	num := func() int {
		return []int{r.IntN(6) - 1, r.IntN(6) - 1, r.IntN(6) - 1, r.IntN(33), math.MaxInt - r.IntN(7), math.MinInt + r.IntN(7), int(r.Uint64()), 1<<53 + r.IntN(9) - 4}[r.IntN(8)]
	}
	for range 20000 {
		w := api.World{Seed: int64(r.Uint64()), Frame: num(), Floor: num(), State: num(), Cells: make([]byte, r.IntN(400))}
		for i := range w.Cells {
			w.Cells[i] = byte(r.IntN(7))
		}
		for range r.IntN(40) {
			w.Ents = append(w.Ents, api.Ent{Kind: num(), Gen: num(), Seat: num(), X: num(), Y: num(), HP: num(), Max: num(), Atk: num(), Def: num(), Poison: num(), Stun: num()})
		}
		for range r.IntN(50) {
			w.Items = append(w.Items, api.Item{Kind: num(), Where: num(), A: num(), B: num()})
		}
		was := twinOf(w)
		for range 8 {
			row, seat := num(), num()
			if n := Monster(w, row); n < api.Stay || n > api.West {
				t.Fatalf("P901: row %d: %d", row, n)
			}
			if n := Robot(w, seat); n < api.Stay || n > api.Buy {
				t.Fatalf("P902: seat %d: %d", seat, n)
			}
		}
		if !same(w, was) {
			t.Fatal("P2: a world that may not be was changed")
		}
	}
}

// TestSameAlways is P3, asked by many at once.
func TestSameAlways(t *testing.T) {
	w := with(drawn("0.r.1..", ".o....2", "3.m...>"), 0, lies(api.IGold, 4, 0))
	var all sync.WaitGroup
	for range 8 {
		all.Go(func() {
			for range 100 {
				for row := range w.Ents {
					if want, why := monsterDoes(w, row); Monster(w, row) != want {
						t.Errorf("P3: row %d %s: another answer", row, why)
					}
				}
				for seat := range api.Seats {
					if want, why := robotDoes(w, seat); Robot(w, seat) != want {
						t.Errorf("P3: seat %d %s: another answer", seat, why)
					}
				}
			}
		})
	}
	all.Wait()
}
