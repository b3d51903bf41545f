package gen

import (
	"bytes"
	"math"
	"reflect"
	"slices"
	"strings"
	"sync"
	"testing"

	"adit/api"
	"adit/dice"
	"adit/ents"
	"adit/grid"
)

// told is what the words of P401 make of a seed and a floor, with what the tests want to know of the way there.
type told struct {
	level    Level
	far      map[[2]int]int // by x and y; what has no way is not there
	most     int
	middles  [][2]int
	over     int // rooms that lie over one ahead of them
	wayless  int // corridors of which no cell is a wall
	wantShop bool
}

// tell is P401 word by word, on a board of columns and rows.
func tell(seed int64, floor int) told {
	d := func(a, b, n int) int { return dice.Die(n, seed, floor, a, b) }
	var board [api.Wide][api.High]byte
	var out told
	for i := range 6 {
		w, h := 3+d(i, 0, 5), 2+d(i, 1, 4)
		x, y := 1+d(i, 2, 24-1-w), 1+d(i, 3, 16-1-h)
		over := 0
		for k := range w * h {
			at := &board[x+k%w][y+k/w]
			over |= int(*at)
			*at = api.CFloor
		}
		out.over += over
		out.middles = append(out.middles, [2]int{x + w/2, y + h/2})
	}
	for i := 1; i <= 5; i++ {
		walls := 0
		for _, at := range corridor(out.middles[i-1], out.middles[i], d(i, 4, 2)) {
			if board[at[0]][at[1]] == api.CWall {
				board[at[0]][at[1]] = api.CFloor
				if walls++; walls == 1 {
					board[at[0]][at[1]] = api.CDoor
				}
			}
		}
		if walls == 0 {
			out.wayless++
		}
	}
	up := out.middles[0]
	board[up[0]][up[1]] = api.CUp
	out.far = steps(&board, up)
	for _, n := range out.far {
		out.most = max(out.most, n)
	}
	set := func(steps, over int, kind byte) {
		for cell := range api.Cells {
			at := [2]int{cell % 24, cell / 24}
			if n, ok := out.far[at]; ok && n == steps && (over < 0 || int(board[at[0]][at[1]]) == over) {
				board[at[0]][at[1]] = kind
				return
			}
		}
	}
	set(out.most, -1, api.CDown)
	if out.wantShop = d(6, 0, 2) == 0; out.wantShop {
		set(out.most/2, api.CFloor, api.CShop)
	}
	for cell := range api.Cells {
		out.level.Cells = append(out.level.Cells, board[cell%24][cell/24])
	}
	out.things(d, floor)
	return out
}

// corridor tells the places from a to b, by its first leg and its second one.
func corridor(a, b [2]int, die int) [][2]int {
	turn := [2]int{b[0], a[1]}
	if die != 0 {
		turn = [2]int{a[0], b[1]}
	}
	places := leg(a, turn)
	return append(places, leg(turn, b)...)
}

// leg tells the places of a straight way, both ends too.
func leg(a, b [2]int) [][2]int {
	var places [][2]int
	for x := min(a[0], b[0]); x <= max(a[0], b[0]); x++ {
		for y := min(a[1], b[1]); y <= max(a[1], b[1]); y++ {
			places = append(places, [2]int{x, y})
		}
	}
	if a[0] > b[0] || a[1] > b[1] {
		slices.Reverse(places)
	}
	return places
}

// steps goes over the whole board till no number becomes less.
func steps(board *[api.Wide][api.High]byte, up [2]int) map[[2]int]int {
	far := map[[2]int]int{up: 0}
	for again := true; again; {
		again = false
		for x := range api.Wide {
			for y := range api.High {
				if board[x][y] == api.CWall {
					continue
				}
				for _, b := range [][2]int{{x + 1, y}, {x - 1, y}, {x, y + 1}, {x, y - 1}} {
					n, ok := far[b]
					if m, is := far[[2]int{x, y}]; ok && (!is || m > n+1) {
						far[[2]int{x, y}] = n + 1
						again = true
					}
				}
			}
		}
	}
	return far
}

// things lays monsters and items: P401, 4 and 5.
func (w *told) things(d func(a, b, n int) int, floor int) {
	free := func(least int, taken map[[2]int]int) [][2]int {
		var out [][2]int
		for cell, kind := range w.level.Cells {
			at := [2]int{cell % 24, cell / 24}
			if kind == api.CFloor && w.far[at] >= least && taken[at] == 0 {
				out = append(out, at)
			}
		}
		return out
	}
	kinds := []api.Ent{
		{Kind: api.ERat, HP: 4, Max: 4, Atk: 2, Def: 0},
		{Kind: api.EOrc, HP: 9, Max: 9, Atk: 4, Def: 1},
		{Kind: api.EMage, HP: 6, Max: 6, Atk: 3, Def: 0},
	}
	taken := map[[2]int]int{}
	for k := 0; k <= floor+1; k++ {
		f := free(4, taken)
		if len(f) == 0 {
			break
		}
		at := f[d(7+k, 0, len(f))]
		taken[at]++
		e := kinds[:min(floor+1, 3)][d(16+k, 1, min(floor+1, 3))]
		e.X, e.Y = at[0], at[1]
		w.level.Ents = append(w.level.Ents, e)
	}
	taken = map[[2]int]int{}
	for k := range 4 {
		if f := free(0, taken); len(f) > 0 {
			at := f[d(40+k, 0, len(f))]
			taken[at]++
			w.level.Items = append(w.level.Items, api.Item{Kind: []int{api.IPotion, api.ISword, api.IMail, api.IGold}[d(40+k, 1, 4)], Where: api.WCell, A: at[0], B: at[1]})
		}
	}
	if bytes.Count(w.level.Cells, []byte{api.CShop}) > 0 {
		for k := range 3 {
			w.level.Items = append(w.level.Items, api.Item{Kind: []int{api.IPotion, api.ISword, api.IMail}[d(50+k, 1, 3)], Where: api.WShop, A: k})
		}
	}
}

// seeds are ordinary ones, such as are below 0, and those at both ends.
func seeds() []int64 {
	out := []int64{1 << 31, -1 << 31, 1<<32 - 1, 1 << 32, 1<<32 + 1, 1 << 62, math.MaxInt64 - 1, math.MaxInt64, math.MinInt64, math.MinInt64 + 1}
	for s := int64(-150); s <= 250; s++ {
		out = append(out, s)
	}
	return out
}

// made is Make where it must not fail.
func made(t *testing.T, seed int64, floor int) Level {
	t.Helper()
	l, err := Make(seed, floor)
	if err != api.OK {
		t.Fatalf("P401: Make(%d, %d): %v", seed, floor, err)
	}
	return l
}

// each calls f with every seed and floor, what the words make of them, and what Make does.
func each(t *testing.T, f func(seed int64, floor int, want told, got Level)) {
	t.Helper()
	for _, seed := range seeds() {
		for floor := 1; floor <= 3; floor++ {
			f(seed, floor, tell(seed, floor), made(t, seed, floor))
		}
	}
}

func TestNoSuchFloor(t *testing.T) {
	floors := []int{0, -1, -2, -3, 4, 5, 255, 256, 257, -255, 1<<16 + 1, 1 << 31, -1 << 31, 1<<32 + 1, 1<<32 + 3, -1<<32 + 1, 1 << 62,
		math.MaxInt, math.MaxInt - 1, math.MinInt, math.MinInt + 1, math.MinInt + 2}
	for _, floor := range floors {
		for _, seed := range []int64{0, 7, -1, math.MaxInt64, math.MinInt64} {
			l, err := Make(seed, floor)
			if err != api.ErrArg {
				t.Errorf("P401: Make(%d, %d): %v, not %v", seed, floor, err, api.ErrArg)
			}
			if len(l.Cells)+len(l.Ents)+len(l.Items) != 0 {
				t.Errorf("P4: Make(%d, %d): %+v beside an error", seed, floor, l)
			}
		}
	}
}

func TestMakeByWords(t *testing.T) {
	each(t, func(seed int64, floor int, want told, got Level) {
		if !bytes.Equal(got.Cells, want.level.Cells) {
			t.Fatalf("P401: Make(%d, %d):\n%s\nnot\n%s", seed, floor, picture(got.Cells), picture(want.level.Cells))
		}
		if !slices.Equal(got.Ents, want.level.Ents) {
			t.Fatalf("P401: Make(%d, %d): monsters %+v, not %+v", seed, floor, got.Ents, want.level.Ents)
		}
		if !slices.Equal(got.Items, want.level.Items) {
			t.Fatalf("P401: Make(%d, %d): items %+v, not %+v", seed, floor, got.Items, want.level.Items)
		}
	})
}

// TestEdgesAreMet: that the seeds above lead to what the chapter names, so that TestMakeByWords tells of it.
func TestEdgesAreMet(t *testing.T) {
	met := map[string]int{}
	each(t, func(seed int64, floor int, want told, got Level) {
		shop := grid.Find(got.Cells, api.CShop) >= 0
		for name, is := range map[string]bool{
			"rooms over one another":           want.over > 0,
			"a corridor without a wall":        want.wayless > 0,
			"a shop":                           shop,
			"no shop by the die":               !want.wantShop,
			"no shop, as no cell is for it":    want.wantShop && !shop,
			"several as far as the down stair": farthest(want) > 1,
		} {
			if is {
				met[name]++
			}
		}
		for i := 1; i < len(want.middles); i++ {
			a, b := want.middles[i-1], want.middles[i]
			die := dice.Die(2, seed, floor, i, 4)
			switch {
			case a == b:
				met["middles that are the same"]++
			case a[1] == b[1]:
				met["middles of one row"]++
			case a[0] == b[0]:
				met["middles of one column"]++
			case die == 0:
				met["first along the row"]++
			default:
				met["first along the column"]++
			}
		}
		for _, e := range got.Ents {
			met[[]string{"", "", "a rat", "an orc", "a mage"}[e.Kind]+" on floor "+string(rune('0'+floor))]++
		}
	})
	for _, name := range []string{
		"rooms over one another", "a corridor without a wall", "a shop", "no shop by the die", "no shop, as no cell is for it",
		"several as far as the down stair", "middles that are the same", "middles of one row", "middles of one column",
		"first along the row", "first along the column", "a rat on floor 1", "an orc on floor 1", "a mage on floor 2", "a mage on floor 3",
	} {
		if met[name] == 0 {
			t.Errorf("P401: no seed leads to %s", name)
		}
	}
	if met["a mage on floor 1"] != 0 {
		t.Errorf("P401: a mage on floor 1")
	}
}

// farthest is how many cells are as far as any.
func farthest(w told) int {
	n := 0
	for _, steps := range w.far {
		if steps == w.most {
			n++
		}
	}
	return n
}

// TestFollows is P402, of what Make answers alone.
func TestFollows(t *testing.T) {
	each(t, func(seed int64, floor int, _ told, got Level) {
		if len(got.Cells) != api.Cells {
			t.Fatalf("P402: Make(%d, %d): %d cells", seed, floor, len(got.Cells))
		}
		count := func(kind byte) int { return bytes.Count(got.Cells, []byte{kind}) }
		if count(api.CUp) != 1 || count(api.CDown) != 1 || count(api.CShop) > 1 {
			t.Errorf("P402: Make(%d, %d): %d up, %d down, %d shops", seed, floor, count(api.CUp), count(api.CDown), count(api.CShop))
		}
		far := grid.Field(got.Cells, nil, grid.Find(got.Cells, api.CUp))
		for cell, kind := range got.Cells {
			if kind > api.CShop || grid.Walk(int(kind)) && far[cell] < 0 {
				t.Fatalf("P402: Make(%d, %d): cell %d of kind %d, %d steps away", seed, floor, cell, kind, far[cell])
			}
		}
		stand := map[int]int{}
		for _, e := range got.Ents {
			cell := e.Y*api.Wide + e.X
			if stand[cell]++; stand[cell] > 1 || far[cell] < 4 || got.Cells[cell] != api.CFloor {
				t.Errorf("P402: Make(%d, %d): %+v, %d steps away", seed, floor, e, far[cell])
			}
		}
		checkItems(t, seed, floor, got)
	})
}

// checkItems: each item is in one place, and no two in the same (T5).
func checkItems(t *testing.T, seed int64, floor int, got Level) {
	t.Helper()
	places := map[api.Item]int{}
	for _, x := range got.Items {
		at := x
		at.Kind = 0
		if places[at]++; places[at] > 1 {
			t.Errorf("P402: Make(%d, %d): two items at %+v", seed, floor, at)
		}
		if x.Where == api.WCell && grid.At(got.Cells, x.A, x.B) != api.CFloor {
			t.Errorf("P402: Make(%d, %d): %+v lies on no floor", seed, floor, x)
		}
	}
	if len(got.Ents) > api.MaxEnts || len(got.Items) > api.MaxItems {
		t.Errorf("T5: Make(%d, %d): %d monsters, %d items", seed, floor, len(got.Ents), len(got.Items))
	}
}

// picture tells cells as text.
func picture(cells []byte) string {
	var rows []string
	for row := range slices.Chunk(cells, api.Wide) {
		text := ""
		for _, kind := range row {
			text += string("#.+<>$"[kind])
		}
		rows = append(rows, text)
	}
	return strings.Join(rows, "\n")
}

// board is cells by their picture: rows that are not told are walls.
func board(rows ...string) []byte {
	cells := make([]byte, api.Cells)
	for y, row := range rows {
		for x, sign := range row {
			cells[y*api.Wide+x] = byte(strings.IndexRune("#.+<>$", sign))
		}
	}
	return cells
}

func TestDig(t *testing.T) {
	for _, x := range []struct {
		name     string
		from     []string
		a, b     place
		rowFirst bool
		to       []string
	}{
		{"first along the row", nil, place{1, 1}, place{4, 3}, true, []string{"", "#+...", "####.", "####."}},
		{"first along the column", nil, place{1, 1}, place{4, 3}, false, []string{"", "#+###", "#.###", "#...."}},
		{"back, first along the row", nil, place{4, 3}, place{1, 1}, true, []string{"", "#.###", "#.###", "#...+"}},
		{"back, first along the column", nil, place{4, 3}, place{1, 1}, false, []string{"", "#....", "####.", "####+"}},
		{"up and east, first along the row", nil, place{1, 3}, place{3, 1}, true, []string{"", "###.", "###.", "#+.."}},
		{"up and east, first along the column", nil, place{1, 3}, place{3, 1}, false, []string{"", "#...", "#.##", "#+##"}},
		{"along one row", nil, place{2, 1}, place{5, 1}, false, []string{"", "##+..."}},
		{"along one column", nil, place{2, 3}, place{2, 1}, true, []string{"", "##.", "##.", "##+"}},
		{"the door is the first wall", []string{"", "#..####"}, place{1, 1}, place{5, 1}, true, []string{"", "#..+..#"}},
		{"there is one door alone", []string{"", "#..#..#..#"}, place{1, 1}, place{8, 1}, true, []string{"", "#..+.....#"}},
		{"a door of another corridor stays", []string{"", "#.+.##.#"}, place{1, 1}, place{6, 1}, true, []string{"", "#.+.+..#"}},
		{"no cell is a wall", []string{"", "#.+.", "###."}, place{1, 1}, place{3, 2}, true, []string{"", "#.+.", "###."}},
		{"the same middle", []string{"", "#.."}, place{1, 1}, place{1, 1}, true, []string{"", "#.."}},
		{"the same middle, the other way", []string{"", "#.."}, place{1, 1}, place{1, 1}, false, []string{"", "#.."}},
		{"the first row", nil, place{0, 0}, place{3, 0}, true, []string{"+..."}},
		{"the first column", nil, place{0, 2}, place{0, 0}, true, []string{".", ".", "+"}},
		{"the turn is a wall alone", []string{"", "#..#", "####", "###."}, place{1, 1}, place{3, 3}, true, []string{"", "#..+", "###.", "###."}},
	} {
		cells := board(x.from...)
		dig(cells, x.a, x.b, x.rowFirst)
		if want := board(x.to...); !bytes.Equal(cells, want) {
			t.Errorf("P401: %s:\n%s\nnot\n%s", x.name, picture(cells), picture(want))
		}
	}
}

// withDie is a plan of that floor whose D(6, 0, 2) is that number.
func withDie(number, floor int) plan {
	for seed := int64(0); ; seed++ {
		if p := (plan{seed, floor}); p.die(6, 0, 2) == number {
			return p
		}
	}
}

func TestStairs(t *testing.T) {
	for _, x := range []struct {
		name string
		die  int
		from []string
		up   place
		to   []string
	}{
		{"a way without a shop", 1, []string{"", "#......"}, place{1, 1}, []string{"", "#<....>"}},
		{"a way with a shop", 0, []string{"", "#......"}, place{1, 1}, []string{"", "#<.$..>"}},
		{"half is rounded down", 0, []string{"", "#....."}, place{1, 1}, []string{"", "#<.$.>"}},
		{"the lowest of several", 0, []string{"", "#.....", "#.....", "#....."}, place{3, 2}, []string{"", "#>.$..", "#..<..", "#....."}},
		{"a door is no shop", 0, []string{"", "#..+.."}, place{1, 1}, []string{"", "#<.+.>"}},
		{"a door that is lower is no shop", 0, []string{"", "#..+..", "#.####", "#..###"}, place{1, 1}, []string{"", "#<.+.>", "#.####", "#$.###"}},
		{"a door may be the down stair", 1, []string{"", "#...+"}, place{1, 1}, []string{"", "#<..>"}},
		{"the down stair alone is left", 0, []string{"", "#.."}, place{1, 1}, []string{"", "#<>"}},
		{"the stair is no shop", 0, []string{"", "#...", "##.#"}, place{2, 1}, []string{"", "#><.", "##.#"}},
	} {
		cells := board(x.from...)
		far := withDie(x.die, 1).stairs(cells, x.up)
		if want := board(x.to...); !bytes.Equal(cells, want) {
			t.Errorf("P401: %s:\n%s\nnot\n%s", x.name, picture(cells), picture(want))
		}
		if !slices.Equal(far, grid.Field(cells, nil, x.up.number())) {
			t.Errorf("P401: %s: distances %v", x.name, far)
		}
	}
}

// TestFewCells: what comes where there are fewer cells than monsters or items, or none. No seed is known that leads there.
func TestFewCells(t *testing.T) {
	for _, x := range []struct {
		row             string
		monsters, items int
	}{
		{"#<>", 0, 0},
		{"#<+>", 0, 0},
		{"#<.>", 0, 1},
		{"#<...>", 0, 3},
		{"#<...+>", 0, 3},
		{"#<....>", 1, 4},
		{"#<...$.>", 1, 4 + api.Shelf},
		{"#<.$.>", 0, 2 + api.Shelf},
		{"#<......>", 3, 4},
		{"#<+++....>", 4, 4},
		{"#<+++....+.>", 5, 4},
		{"#<+++$>", 0, api.Shelf},
		{"#<................>", 5, 4},
	} {
		cells := board("", x.row)
		far := grid.Field(cells, nil, grid.Find(cells, api.CUp))
		for seed := range int64(60) {
			for floor := 1; floor <= 3; floor++ {
				p := plan{seed, floor}
				want := told{level: Level{Cells: cells}, far: map[[2]int]int{}}
				for cell, steps := range far {
					want.far[[2]int{cell % 24, cell / 24}] = steps
				}
				want.things(p.die, floor)
				ents, items := p.monsters(cells, far), p.items(cells)
				if len(ents) != min(x.monsters, floor+2) || len(items) != x.items {
					t.Fatalf("P401: %s, floor %d: %d monsters, %d items", x.row, floor, len(ents), len(items))
				}
				if !slices.Equal(ents, want.level.Ents) || !slices.Equal(items, want.level.Items) {
					t.Fatalf("P401: %s, floor %d: %+v, %+v, not %+v", x.row, floor, ents, items, want.level)
				}
			}
		}
	}
}

func TestStats(t *testing.T) {
	for kind := -2; kind < 8; kind++ {
		want := map[int]api.Ent{
			api.ERat:  {Kind: api.ERat, HP: 4, Max: 4, Atk: 2, Def: 0},
			api.EOrc:  {Kind: api.EOrc, HP: 9, Max: 9, Atk: 4, Def: 1},
			api.EMage: {Kind: api.EMage, HP: 6, Max: 6, Atk: 3, Def: 0},
		}[kind]
		if got := stats(kind); got != want {
			t.Errorf("P401: kind %d: %+v, not %+v", kind, got, want)
		}
	}
}

// TestStatsAreThoseOfEnts: the numbers stand twice, and must stay the same.
func TestStatsAreThoseOfEnts(t *testing.T) {
	for _, kind := range []int{api.ERat, api.EOrc, api.EMage} {
		if got, want := stats(kind), ents.Stats(kind); got != want {
			t.Errorf("P401: kind %d: %+v, not ents.Stats, %+v", kind, got, want)
		}
	}
}

// whole tells a level with the spare room of its lists.
func whole(l Level) Level {
	return Level{l.Cells[:cap(l.Cells)], l.Ents[:cap(l.Ents)], l.Items[:cap(l.Items)]}
}

// spoil writes over all of a level, and over its lists' spare room.
func spoil(l Level) {
	w := whole(l)
	for i := range w.Cells {
		w.Cells[i] = 0xEE
	}
	for i := range w.Ents {
		w.Ents[i] = api.Ent{Kind: -1, X: -1}
	}
	for i := range w.Items {
		w.Items[i] = api.Item{Kind: -1, A: -1}
	}
}

// TestNobodyElses: what is made again is the same and new, whatever becomes of what was made ahead of it.
func TestNobodyElses(t *testing.T) {
	for _, seed := range []int64{0, 7, -7, 83, math.MaxInt64, math.MinInt64} {
		for floor := 1; floor <= 3; floor++ {
			want := tell(seed, floor).level
			first, second := made(t, seed, floor), made(t, seed, floor)
			spoil(first)
			Make(seed, 0)
			Make(seed+1, floor)
			third := made(t, seed, floor)
			if !reflect.DeepEqual(second, want) || !reflect.DeepEqual(third, want) {
				t.Fatalf("P2, P3: Make(%d, %d): not the same again", seed, floor)
			}
			spoil(third)
			if !reflect.DeepEqual(second, want) {
				t.Fatalf("P2: Make(%d, %d): two answers share memory", seed, floor)
			}
		}
	}
}

// TestAtOnce: nothing is kept, so that several may make floors at the same time.
func TestAtOnce(t *testing.T) {
	var all sync.WaitGroup
	got := make([]Level, 24)
	for i := range got {
		all.Go(func() { got[i], _ = Make(int64(i/6), 1+i%3) })
	}
	all.Wait()
	for i, l := range got {
		if !reflect.DeepEqual(l, tell(int64(i/6), 1+i%3).level) {
			t.Errorf("P3: Make(%d, %d): another one", i/6, 1+i%3)
		}
	}
}

// TestKnownFloors: three floors in full, so that it is seen if what Make does and what tell does change together.
func TestKnownFloors(t *testing.T) {
	for _, x := range []struct {
		seed  int64
		floor int
		cells []string
		ents  []api.Ent
		items []api.Item
	}{
		{7, 1, []string{
			"", "", "",
			"####>.....##############",
			"####......##############",
			"####.................###",
			"####......####+#####.###",
			"###########.......##+###",
			"###########............#",
			"##############.........#",
			"#....+.................#",
			"#....#########.........#",
			"#..<.##########........#",
			"#....###################",
		}, []api.Ent{
			{Kind: api.EOrc, X: 9, Y: 5, HP: 9, Max: 9, Atk: 4, Def: 1},
			{Kind: api.ERat, X: 15, Y: 5, HP: 4, Max: 4, Atk: 2},
			{Kind: api.ERat, X: 18, Y: 9, HP: 4, Max: 4, Atk: 2},
		}, []api.Item{
			{Kind: api.IGold, Where: api.WCell, A: 16, B: 9}, {Kind: api.ISword, Where: api.WCell, A: 4, B: 13},
			{Kind: api.IGold, Where: api.WCell, A: 15, B: 9}, {Kind: api.ISword, Where: api.WCell, A: 21, B: 8},
		}},
		{3, 2, []string{
			"", "",
			"##############...#######",
			"##############$..#######",
			"########.........#######",
			"########.........#######",
			"########...<.....#######",
			"########......##########",
			"#####.........##########",
			"#####...#...############",
			"#####.........##########",
			"#####.........##########",
			"#####>........##########",
			"#########...############",
		}, []api.Ent{
			{Kind: api.ERat, X: 8, Y: 5, HP: 4, Max: 4, Atk: 2},
			{Kind: api.EOrc, X: 11, Y: 13, HP: 9, Max: 9, Atk: 4, Def: 1},
			{Kind: api.EOrc, X: 11, Y: 11, HP: 9, Max: 9, Atk: 4, Def: 1},
			{Kind: api.EMage, X: 5, Y: 10, HP: 6, Max: 6, Atk: 3},
		}, []api.Item{
			{Kind: api.IPotion, Where: api.WCell, A: 5, B: 10}, {Kind: api.IPotion, Where: api.WCell, A: 11, B: 10},
			{Kind: api.ISword, Where: api.WCell, A: 8, B: 12}, {Kind: api.IPotion, Where: api.WCell, A: 14, B: 2},
			{Kind: api.ISword, Where: api.WShop}, {Kind: api.IMail, Where: api.WShop, A: 1}, {Kind: api.IPotion, Where: api.WShop, A: 2},
		}},
		{-1, 3, []string{
			"", "",
			"####...........>########",
			"####............########",
			"#######.#.......########",
			"#######$#.......########",
			"#######+#.......########",
			"######............######",
			"#####.............######",
			"#####........###########",
			"#####........###########",
			"#####+.......###########",
			"###....#################",
			"###..<.#################",
		}, []api.Ent{
			{Kind: api.EMage, X: 7, Y: 7, HP: 6, Max: 6, Atk: 3},
			{Kind: api.EMage, X: 15, Y: 8, HP: 6, Max: 6, Atk: 3},
			{Kind: api.EOrc, X: 12, Y: 8, HP: 9, Max: 9, Atk: 4, Def: 1},
			{Kind: api.ERat, X: 17, Y: 8, HP: 4, Max: 4, Atk: 2},
			{Kind: api.EOrc, X: 16, Y: 8, HP: 9, Max: 9, Atk: 4, Def: 1},
		}, []api.Item{
			{Kind: api.IPotion, Where: api.WCell, A: 15, B: 8}, {Kind: api.IGold, Where: api.WCell, A: 9, B: 3},
			{Kind: api.ISword, Where: api.WCell, A: 13, B: 8}, {Kind: api.IGold, Where: api.WCell, A: 6, B: 7},
			{Kind: api.IMail, Where: api.WShop}, {Kind: api.IMail, Where: api.WShop, A: 1}, {Kind: api.ISword, Where: api.WShop, A: 2},
		}},
	} {
		got := made(t, x.seed, x.floor)
		if want := (Level{board(x.cells...), x.ents, x.items}); !reflect.DeepEqual(got, want) {
			t.Errorf("P401: Make(%d, %d):\n%s\n%+v\n%+v", x.seed, x.floor, picture(got.Cells), got.Ents, got.Items)
		}
	}
}
