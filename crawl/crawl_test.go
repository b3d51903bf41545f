package crawl

import (
	"math"
	"slices"
	"strings"
	"testing"

	"adit/api"
	"adit/dice"
	"adit/ents"
	"adit/fight"
	"adit/gen"
	"adit/goods"
	"adit/minds"
)

// signs are those of the kinds of cells, in their order.
const signs = "#.+<>$"

// rowOf tells the rows of those who are drawn: the heroes of seats 0 to 3, whose rows fall as their seats rise, and monsters.
func rowOf(sign byte) int {
	return map[byte]int{'0': 29, '1': 21, '2': 13, '3': 8, 'R': 1, 'r': 4, 'O': 2, 'o': 14, 'M': 31, 'm': 24}[sign]
}

// kindOf tells the kind of a monster that is drawn.
func kindOf(sign byte) int {
	return map[byte]int{'r': api.ERat, 'R': api.ERat, 'o': api.EOrc, 'O': api.EOrc, 'm': api.EMage, 'M': api.EMage}[sign]
}

// ways are the four, with their steps.
var ways = []struct{ way, dx, dy int }{{api.North, 0, -1}, {api.East, 1, 0}, {api.South, 0, 1}, {api.West, -1, 0}}

func at(x, y int) int { return y*24 + x }

// bare is a world of walls with nobody in it. What a part should leave alone has a number of its own; its next frame is no multiple of Period.
func bare() api.World {
	w := api.World{Seed: -55, Frame: 1234, Floor: 2, Gold: [api.Seats]int{1, 200, 3, 999}}
	w.Cells, w.Ents, w.Items = make([]byte, api.Cells), make([]api.Ent, api.MaxEnts), make([]api.Item, api.MaxItems)
	for row := range w.Ents {
		w.Ents[row].Gen = 200 + row
	}
	return w
}

// drawn is a world by rows of signs: those of cells; of heroes (their seats) and of monsters, on CFloor. What is not drawn is a wall.
func drawn(rows ...string) api.World {
	w := bare()
	for y, signRow := range rows {
		for x, sign := range []byte(signRow) {
			if kind := strings.IndexByte(signs, sign); kind >= 0 {
				w.Cells[at(x, y)] = byte(kind)
				continue
			}
			w.Cells[at(x, y)] = api.CFloor
			put(&w, sign, x, y)
		}
	}
	stairs(&w)
	return w
}

// put puts one by its sign at a place, and tells the row; of several monsters of one sign each next one has the next free row.
func put(w *api.World, sign byte, x, y int) int {
	e := ents.Stats(api.EHero)
	if sign >= '0' && sign <= '3' {
		e.Seat = int(sign - '0')
	} else {
		e = ents.Stats(kindOf(sign))
	}
	row := rowOf(sign)
	for w.Ents[row].Kind != api.ENone {
		row = (row + 1) % api.MaxEnts
	}
	e.X, e.Y, e.Gen = x, y, w.Ents[row].Gen
	w.Ents[row] = e
	return row
}

// stairs puts those that a world lacks on its last walls, out of reach of what is drawn at its beginning.
func stairs(w *api.World) {
	for _, kind := range []byte{api.CUp, api.CDown} {
		if !slices.Contains(w.Cells, kind) {
			for cell := api.Cells - 1; cell >= 0; cell -= 2 {
				if w.Cells[cell] == api.CWall {
					w.Cells[cell] = kind
					break
				}
			}
		}
	}
}

// open is a world without walls: the stairs are at (23, 0) and (0, 15).
func open() api.World {
	w := bare()
	for cell := range w.Cells {
		w.Cells[cell] = api.CFloor
	}
	w.Cells[at(23, 0)], w.Cells[at(0, 15)] = api.CUp, api.CDown
	return w
}

func twinOf(w api.World) api.World {
	w.Cells, w.Ents, w.Items = slices.Clone(w.Cells), slices.Clone(w.Ents), slices.Clone(w.Items)
	return w
}

// changed is a world with something else in it.
func changed(w api.World, change func(v *api.World)) api.World {
	w = twinOf(w)
	change(&w)
	return w
}

// calm is a world whose monsters are stunned.
func calm(w api.World) api.World {
	return changed(w, func(v *api.World) {
		for row := range v.Ents {
			if v.Ents[row].Kind >= api.ERat {
				v.Ents[row].Stun = 9
			}
		}
	})
}

func bag(seat, kind, slot int) api.Item {
	return api.Item{Kind: kind, Where: api.WBag, A: seat, B: slot}
}
func sword(seat int) api.Item       { return api.Item{Kind: api.ISword, Where: api.WWorn, A: seat} }
func mail(seat int) api.Item        { return api.Item{Kind: api.IMail, Where: api.WWorn, A: seat, B: 1} }
func lies(kind, x, y int) api.Item  { return api.Item{Kind: kind, Where: api.WCell, A: x, B: y} }
func shelf(kind, slot int) api.Item { return api.Item{Kind: kind, Where: api.WShop, A: slot} }

// with is a world with items, in every third row from row 2 on.
func with(w api.World, items ...api.Item) api.World {
	return changed(w, func(v *api.World) {
		for i, item := range items {
			v.Items[2+3*i] = item
		}
	})
}

// Acts.

func player(seat, input int) api.Acts {
	var a api.Acts
	a[seat] = api.Act{How: api.Player, Input: input}
	return a
}

func robot(seat int) api.Acts {
	var a api.Acts
	a[seat].How = api.Robot
	return a
}

func spawns(seats ...int) api.Acts {
	var a api.Acts
	for _, seat := range seats {
		a[seat].Spawn = true
	}
	return a
}

// all are the acts of several seats in one.
func all(each ...api.Acts) api.Acts {
	var a api.Acts
	for _, one := range each {
		for seat, act := range one {
			if act.How != api.Absent {
				a[seat].How, a[seat].Input = act.How, act.Input
			}
			a[seat].Spawn = a[seat].Spawn || act.Spawn
		}
	}
	return a
}

// ends are numbers at both ends of their range, and such as are a small one modulo a power of 2.
func ends(n int) []int {
	return []int{math.MinInt, math.MinInt + n, math.MaxInt, math.MaxInt - n, n - 1<<32, n + 1<<32, n + 1<<31, n + 1<<16, n + 256, n - 256, n + 1<<62, ^n}
}

// What is held against what.

// same tells whether all is the same in two worlds.
func same(a, b api.World) bool {
	return a.Seed == b.Seed && a.Frame == b.Frame && a.Floor == b.Floor && a.State == b.State && a.Gold == b.Gold &&
		slices.Equal(a.Cells, b.Cells) && slices.Equal(a.Ents, b.Ents) && slices.Equal(a.Items, b.Items)
}

// checkSame holds a world against the one that is wanted, and tells the rows that differ.
func checkSame(t *testing.T, what string, got, want api.World) {
	t.Helper()
	if same(got, want) {
		return
	}
	t.Errorf("%s: frame %d, floor %d, state %d, gold %v; not %d, %d, %d, %v", what, got.Frame, got.Floor, got.State, got.Gold, want.Frame, want.Floor, want.State, want.Gold)
	if !slices.Equal(got.Cells, want.Cells) {
		t.Errorf("%s: other cells", what)
	}
	for row := range min(len(got.Ents), len(want.Ents)) {
		if got.Ents[row] != want.Ents[row] {
			t.Errorf("%s: row %d: %+v, not %+v", what, row, got.Ents[row], want.Ents[row])
		}
	}
	for row := range min(len(got.Items), len(want.Items)) {
		if got.Items[row] != want.Items[row] {
			t.Errorf("%s: item %d: %+v, not %+v", what, row, got.Items[row], want.Items[row])
		}
	}
}

// checkStep holds a frame, of a world that may be and that is running, against that world with what is wanted changed in it: Frame is one more and each Stun one less by itself.
func checkStep(t *testing.T, what string, w api.World, a api.Acts, change func(v *api.World)) {
	t.Helper()
	if !mayBe(w) || w.State != api.Running {
		t.Fatalf("%s: the world is none that may be", what)
	}
	was, want := twinOf(w), twinOf(w)
	want.Frame++
	for row := range want.Ents {
		want.Ents[row].Stun = max(0, want.Ents[row].Stun-1)
	}
	change(&want)
	got := Step(w, a)
	checkSame(t, "P1002: "+what, got, want)
	if !same(w, was) {
		t.Errorf("P2: %s: the world that was handed in is another one", what)
	}
	if !mayBe(got) {
		t.Errorf("P1003: %s: a world that may not be", what)
	}
}

// nothing is what changes where nothing is done.
func nothing(v *api.World) {}

// goes moves one, by its sign.
func goes(sign byte, x, y int) func(v *api.World) {
	return func(v *api.World) { v.Ents[rowOf(sign)].X, v.Ents[rowOf(sign)].Y = x, y }
}

// falls frees the rows of some, by their signs.
func falls(these string) func(v *api.World) {
	return func(v *api.World) {
		for _, sign := range []byte(these) {
			v.Ents[rowOf(sign)] = api.Ent{Gen: v.Ents[rowOf(sign)].Gen}
		}
	}
}

// hurts takes HP of one, by its sign.
func hurts(sign byte, n int) func(v *api.World) {
	return func(v *api.World) { v.Ents[rowOf(sign)].HP -= n }
}

// each does several changes.
func each(changes ...func(v *api.World)) func(v *api.World) {
	return func(v *api.World) {
		for _, change := range changes {
			change(v)
		}
	}
}

// comes puts a fresh one into a row that was free.
func comes(row, kind, seat, x, y int) func(v *api.World) {
	return func(v *api.World) {
		e := ents.Stats(kind)
		e.Gen, e.Seat, e.X, e.Y = (v.Ents[row].Gen+1)%256, seat, x, y
		v.Ents[row] = e
	}
}

func stands(state int) func(v *api.World) { return func(v *api.World) { v.State = state } }

// luck is what the die of a blow adds, in the frame that is made of w.
func luck(w api.World, from, to int) int { return dice.Die(3, w.Seed, w.Frame+1, from, to, 77) }

// stuns tells whether an orc's blow does, in the frame that is made of w.
func stuns(w api.World, from, to int) bool { return dice.Die(4, w.Seed, w.Frame+1, from, to, 78) == 0 }

// whim is the way that the die of a monster shows that sees nobody, in the frame that is made of w.
func whim(w api.World, row int) int { return dice.Die(8, w.Seed, w.Frame+1, row, 90) }

// framed is a world at the first frame, from 1000 on, whose next one is no multiple of Period and for which something holds.
func framed(t *testing.T, w api.World, holds func(v api.World) bool) api.World {
	t.Helper()
	for w.Frame = 1000; w.Frame < 100000; w.Frame++ {
		if (w.Frame+1)%16 != 0 && holds(w) {
			return w
		}
	}
	t.Fatal("no such frame")
	return w
}

// mayBe tells whether a world is such as may be, so that all promises hold for it: chapter 11's Check.
func mayBe(w api.World) bool {
	if w.Frame < 0 || w.Frame >= 1<<30 || w.Floor < 1 || w.Floor > 3 || w.State < 0 || w.State > 2 || slices.Min(w.Gold[:]) < 0 || slices.Max(w.Gold[:]) > 999 {
		return false
	}
	if len(w.Cells) != 384 || len(w.Ents) != 32 || len(w.Items) != 40 {
		return false
	}
	count := [256]int{}
	for _, kind := range w.Cells {
		count[kind]++
	}
	if slices.Max(count[6:]) > 0 || count[api.CUp] != 1 || count[api.CDown] != 1 {
		return false
	}
	for row := range w.Ents {
		if !rowMayBe(w, row) {
			return false
		}
	}
	return goods.Check(w)
}

// rowMayBe is mayBe of one row.
func rowMayBe(w api.World, row int) bool {
	e := w.Ents[row]
	fresh := ents.Stats(e.Kind)
	if e.Gen < 0 || e.Gen > 255 {
		return false
	}
	if e.Kind == api.ENone {
		return e == api.Ent{Gen: e.Gen}
	}
	for _, other := range w.Ents[:row] {
		if other.Kind != api.ENone && other.X == e.X && other.Y == e.Y || other.Kind == api.EHero && e.Kind == api.EHero && other.Seat == e.Seat {
			return false
		}
	}
	return walkable(w.Cells, e.X, e.Y) && e.HP >= 1 && e.HP <= e.Max && e.Max == fresh.Max && e.Atk == fresh.Atk && e.Def == fresh.Def &&
		fresh != (api.Ent{}) && e.Poison >= 0 && e.Poison <= 9 && e.Stun >= 0 && e.Stun <= 9 && e.Seat >= 0 && e.Seat <= 3 && (e.Kind == api.EHero || e.Seat == 0)
}

func walkable(cells []byte, x, y int) bool {
	return x >= 0 && x < 24 && y >= 0 && y < 16 && cells[at(x, y)] >= 1 && cells[at(x, y)] <= 5
}

func someone(l []api.Ent, x, y int) bool {
	return slices.ContainsFunc(l, func(e api.Ent) bool { return e.Kind != api.ENone && e.X == x && e.Y == y })
}

// New.

func TestNew(t *testing.T) {
	seeds := []int64{math.MinInt64, math.MinInt64 + 1, -1 << 32, -7, -1, 1 << 32, math.MaxInt64 - 1, math.MaxInt64}
	for seed := range int64(150) {
		seeds = append(seeds, seed)
	}
	for _, seed := range seeds {
		level, err := gen.Make(seed, 1)
		if err != api.OK {
			t.Fatal(err)
		}
		want := api.World{Seed: seed, Frame: 0, Floor: 1, State: api.Running, Cells: level.Cells, Ents: make([]api.Ent, 32), Items: make([]api.Item, 40)}
		for row, e := range level.Ents {
			e.Gen = 1
			want.Ents[row] = e
		}
		copy(want.Items, level.Items)
		got := New(seed)
		checkSame(t, "P1001", got, want)
		if len(got.Ents) != 32 || len(got.Items) != 40 || len(level.Ents) == 0 || len(level.Items) == 0 {
			t.Errorf("P1001: seed %d: %d rows, %d items", seed, len(got.Ents), len(got.Items))
		}
		if !mayBe(got) {
			t.Errorf("P1003: seed %d: New is none that may be", seed)
		}
	}
}

// TestNewByHand: floor 1 of seed 7, as the README tells it.
func TestNewByHand(t *testing.T) {
	w := New(7)
	if w.Seed != 7 || w.Frame != 0 || w.Floor != 1 || w.State != api.Running || w.Gold != [4]int{} || w.Cells[291] != api.CUp {
		t.Errorf("P1001: seed %d, frame %d, floor %d, state %d, gold %v", w.Seed, w.Frame, w.Floor, w.State, w.Gold)
	}
	kinds := []int{}
	for _, e := range w.Ents {
		if e.Kind != api.ENone {
			kinds = append(kinds, e.Kind)
		}
	}
	slices.Sort(kinds)
	if !slices.Equal(kinds, []int{api.ERat, api.ERat, api.EOrc}) {
		t.Errorf("P1001: kinds %v", kinds)
	}
	if other := New(8); slices.Equal(other.Cells, w.Cells) || other.Seed != 8 {
		t.Error("P1001: of another seed the same floor")
	}
}

// TestNewIsApart: what is answered is nobody else's.
func TestNewIsApart(t *testing.T) {
	a, b := New(3), New(3)
	for i := range a.Cells {
		a.Cells[i] = 9
	}
	clear(a.Ents)
	clear(a.Items)
	checkSame(t, "P2: New again", New(3), b)
}

// Step: a crawl that is over.

// busy is a world in which much could be done: who stands on the stair, is poisoned, stunned, beside a monster, with things to pick up.
func busy() api.World {
	w := drawn("..r0..<.", ".o1.....", "m.2....>", "$.......")
	put(&w, '3', 7, 2)
	w.Ents[rowOf('1')].Poison, w.Ents[rowOf('1')].HP = 4, 1
	w.Ents[rowOf('2')].Stun, w.Ents[rowOf('o')].Poison, w.Ents[rowOf('m')].Stun = 3, 2, 1
	return with(w, lies(api.IGold, 3, 0), bag(0, api.IPotion, 1), sword(3), bag(1, api.IMail, 0), shelf(api.ISword, 1))
}

// anyActs are acts of all kinds.
func anyActs() []api.Acts {
	l := []api.Acts{{}, spawns(0, 1, 2, 3), all(robot(0), robot(1), robot(2), robot(3))}
	for input := -1; input <= 11; input++ {
		a := all(player(0, input), player(1, input), player(2, input), player(3, input))
		l = append(l, a, all(a, spawns(0, 1, 2, 3)))
	}
	return l
}

func TestOver(t *testing.T) {
	empty := drawn("..<..")
	alone := drawn("..<r.")
	stranded := changed(busy(), falls("0123"))
	for _, start := range []api.World{busy(), empty, alone, stranded, New(5)} {
		for _, state := range []int{api.Won, api.Lost} {
			for floor := 1; floor <= 3; floor++ {
				for _, frame := range []int{0, 14, 15, 16, 31, 1234, 1<<30 - 2} {
					w := twinOf(start)
					w.State, w.Floor, w.Frame = state, floor, frame
					if !mayBe(w) {
						t.Fatal("a world of these tests is none")
					}
					for _, a := range anyActs() {
						want := twinOf(w)
						want.Frame++
						checkSame(t, "P1002: it is over", Step(w, a), want)
					}
				}
			}
		}
	}
	// The same world is another one behind a frame, if it is running.
	w := busy()
	v := Step(w, api.Acts{})
	if w.Frame++; same(v, w) || v.State != api.Running {
		t.Error("P1002: running, and nothing was done")
	}
}

// Step, part 1: those who come.

func TestSpawnOfEachSeat(t *testing.T) {
	w := drawn("...", ".<.", "..>")
	for seat := range api.Seats {
		checkStep(t, "a seat that has no hero", w, spawns(seat), comes(0, api.EHero, seat, 1, 1))
		checkStep(t, "a seat that asks for none", w, player(seat, api.Pick), nothing)
		checkStep(t, "a robot that asks for none", w, robot(seat), nothing)
	}
	checkStep(t, "nobody asks", w, api.Acts{}, nothing)
}

// TestSpawnHeroIsFresh: the numbers of a hero, by hand; what its seat had, it has.
func TestSpawnHeroIsFresh(t *testing.T) {
	w := with(drawn("...", ".<."), bag(2, api.IPotion, 3), sword(2), bag(1, api.IPotion, 0))
	got := Step(w, spawns(2))
	if e := got.Ents[0]; e != (api.Ent{Kind: api.EHero, Gen: 201, Seat: 2, X: 1, Y: 1, HP: 20, Max: 20, Atk: 5, Def: 1}) {
		t.Errorf("P1002: %+v", e)
	}
	if got.Gold != w.Gold || !slices.Equal(got.Items, w.Items) {
		t.Errorf("P1002: who comes changes gold or items: %v", got.Gold)
	}
}

// TestSpawnOfNew is the chapter's example.
func TestSpawnOfNew(t *testing.T) {
	for seed := range int64(50) {
		w := New(seed)
		for seat := range api.Seats {
			v := Step(w, spawns(seat))
			row := ents.Hero(v.Ents, seat)
			if row < 0 || at(v.Ents[row].X, v.Ents[row].Y) != slices.Index(w.Cells, api.CUp) || v.State != api.Running || v.Frame != 1 {
				t.Errorf("P1002: seed %d, seat %d: row %d", seed, seat, row)
			}
		}
	}
}

func TestSpawnOfOneWhoIsThere(t *testing.T) {
	for seat, sign := range []byte("0123") {
		w := changed(drawn("..."+string(sign)+".", ".<...", "....."), hurts(sign, 9))
		checkStep(t, "a seat that has a hero", w, spawns(seat), nothing)
		checkStep(t, "a seat that has a hero, which goes", w, all(spawns(seat), player(seat, api.East)), goes(sign, 4, 0))
		for other := range api.Seats {
			if other != seat {
				checkStep(t, "another seat", w, spawns(other), comes(0, api.EHero, other, 1, 1))
				checkStep(t, "both seats", w, spawns(seat, other), comes(0, api.EHero, other, 1, 1))
			}
		}
	}
	w := drawn("0123", "..<.")
	checkStep(t, "all have one", w, spawns(0, 1, 2, 3), nothing)
}

// TestSpawnBesideTheStair: where CUp's cell is taken, the nearest one, of several the lowest.
func TestSpawnBesideTheStair(t *testing.T) {
	for _, sign := range []byte("roM0") {
		w := drawn("....", ".<..", "....")
		put(&w, sign, 1, 1)
		w = calm(w)
		checkStep(t, "one on the stair", w, spawns(3), comes(0, api.EHero, 3, 1, 0))
		put(&w, 'R', 1, 0)
		w = calm(w)
		checkStep(t, "one beside it too", w, spawns(3), comes(0, api.EHero, 3, 0, 1))
		put(&w, 'm', 0, 1)
		w = calm(w)
		checkStep(t, "two beside it", w, spawns(3), comes(0, api.EHero, 3, 2, 1))
	}
	// Those who stand in the way do not block it; a wall does.
	w := drawn("rro..")
	w.Cells[at(0, 0)], w.Cells[slices.Index(w.Cells, api.CUp)] = api.CUp, api.CWall
	checkStep(t, "behind others", calm(w), spawns(1), comes(0, api.EHero, 1, 3, 0))
	w = drawn("r#.", "...")
	w.Cells[at(0, 0)], w.Cells[slices.Index(w.Cells, api.CUp)] = api.CUp, api.CWall
	checkStep(t, "round a wall", calm(w), spawns(1), comes(0, api.EHero, 1, 0, 1))
}

// TestSpawnOfSeveral: in the order of seats, each around those who came ahead of it.
func TestSpawnOfSeveral(t *testing.T) {
	w := drawn("...", ".<.", "...")
	checkStep(t, "all four", w, spawns(3, 1, 0, 2), each(comes(0, api.EHero, 0, 1, 1), comes(1, api.EHero, 1, 1, 0), comes(2, api.EHero, 2, 0, 1), comes(3, api.EHero, 3, 2, 1)))
	checkStep(t, "two", w, spawns(3, 1), each(comes(0, api.EHero, 1, 1, 1), comes(1, api.EHero, 3, 1, 0)))
	put(&w, 'r', 1, 1)
	put(&w, '2', 0, 1)
	w = calm(w)
	checkStep(t, "three, one on the stair, one there already", w, spawns(0, 1, 2, 3), each(comes(0, api.EHero, 0, 1, 0), comes(1, api.EHero, 1, 2, 1), comes(2, api.EHero, 3, 1, 2)))
}

// crowd is an open world with a stunned rat in each row but some.
func crowd(without ...int) api.World {
	w := open()
	for row := range w.Ents {
		if !slices.Contains(without, row) {
			w.Ents[row] = api.Ent{Kind: api.ERat, Gen: 100 + row, X: row % 16, Y: 3 + row/16, HP: 4, Max: 4, Atk: 2}
		}
	}
	return calm(w)
}

func TestSpawnInFreeRows(t *testing.T) {
	for row := range api.MaxEnts {
		w := crowd(row)
		checkStep(t, "one row free", w, spawns(2), comes(row, api.EHero, 2, 23, 0))
		checkStep(t, "one row for three: the lowest seat", w, spawns(1, 2, 3), comes(row, api.EHero, 1, 23, 0))
		w.Ents[row].Gen = 255
		checkStep(t, "Gen comes round", w, spawns(0), comes(row, api.EHero, 0, 23, 0))
		if got := Step(w, spawns(0)).Ents[row].Gen; got != 0 {
			t.Errorf("P1002: Gen behind 255: %d", got)
		}
	}
	checkStep(t, "rows 9 and 30 free", crowd(9, 30), spawns(3, 0), each(comes(9, api.EHero, 0, 23, 0), comes(30, api.EHero, 3, 22, 0)))
	checkStep(t, "no row free", crowd(), spawns(0), nothing)
	checkStep(t, "no row free, for nobody", crowd(), spawns(0, 1, 2, 3), nothing)
	// A refused one has no hero that could do anything.
	checkStep(t, "no row free, though it would go", crowd(), all(spawns(0), player(0, api.South)), nothing)
}

// TestSpawnWithoutACell: all that is reached from the stair is taken.
func TestSpawnWithoutACell(t *testing.T) {
	w := drawn("<#...")
	put(&w, 'r', 0, 0)
	checkStep(t, "the stair alone", calm(w), spawns(0, 1, 2, 3), nothing)
	w = drawn("<.o#..", "###...")
	put(&w, 'r', 0, 0)
	checkStep(t, "one cell for three", calm(w), spawns(3, 2, 1), comes(0, api.EHero, 1, 1, 0))
	put(&w, '1', 1, 0)
	checkStep(t, "no cell", calm(w), spawns(0, 1, 2, 3), nothing)
}

// TestSpawnAndActAtOnce: who comes is there when the seats are moved, and when the monsters are.
func TestSpawnAndActAtOnce(t *testing.T) {
	w := drawn("....", ".<..", "....", ">...")
	w = with(w, lies(api.IGold, 1, 1))
	for _, way := range ways {
		checkStep(t, "comes and goes", w, all(spawns(2), player(2, way.way)), comes(0, api.EHero, 2, 1+way.dx, 1+way.dy))
	}
	gold := func(v *api.World) { v.Items[2], v.Gold[1] = api.Item{}, 205 }
	checkStep(t, "comes and picks", w, all(spawns(1), player(1, api.Pick)), each(comes(0, api.EHero, 1, 1, 1), gold))
	checkStep(t, "comes and picks as a robot", w, all(spawns(1), robot(1)), each(comes(0, api.EHero, 1, 1, 1), gold))
	// The one who came first makes room only when all have come.
	checkStep(t, "two come, both go east", w, all(spawns(0, 1), player(0, api.East), player(1, api.East)), each(comes(0, api.EHero, 0, 2, 1), comes(1, api.EHero, 1, 2, 0)))
	v := drawn("....", "r<..", "....")
	checkStep(t, "comes beside a rat", v, spawns(0), each(comes(0, api.EHero, 0, 1, 1), func(u *api.World) { u.Ents[0].HP = 19 - luck(v, rowOf('r'), 0) }))
}

// Step, part 2: the seats.

// TestHeroGoes: each seat, each way, to each kind of cells.
func TestHeroGoes(t *testing.T) {
	for seat, sign := range []byte("0123") {
		for _, way := range ways {
			for kind := range 6 {
				w := open()
				if stair := slices.Index(w.Cells, byte(kind)); kind == api.CUp || kind == api.CDown {
					w.Cells[stair] = api.CFloor
				}
				w.Cells[at(7+way.dx, 7+way.dy)] = byte(kind)
				put(&w, sign, 7, 7)
				want := goes(sign, 7+way.dx, 7+way.dy)
				if kind == api.CWall {
					want = nothing
				}
				checkStep(t, "to "+signs[kind:kind+1], w, player(seat, way.way), want)
			}
		}
	}
}

// TestHeroAtTheEdge: off the floor there is nothing to walk on, though the number beside it be another cell's.
func TestHeroAtTheEdge(t *testing.T) {
	for cell := range api.Cells {
		x, y := cell%24, cell/24
		w := open()
		put(&w, '2', x, y)
		for _, way := range ways {
			want := goes('2', x+way.dx, y+way.dy)
			if x+way.dx < 0 || x+way.dx > 23 || y+way.dy < 0 || y+way.dy > 15 {
				want = nothing
			}
			checkStep(t, "all over the floor", w, player(2, way.way), want)
		}
	}
}

func TestHeroHits(t *testing.T) {
	for seat, sign := range []byte("0123") {
		for _, way := range ways {
			for foe, hurt := range map[byte]int{'r': 5, 'R': 5, 'o': 4, 'O': 4, 'm': 5, 'M': 5} {
				for frame := 1000; frame < 1006; frame++ {
					w := open()
					w.Frame = frame
					put(&w, sign, 7, 7)
					put(&w, foe, 7+way.dx, 7+way.dy)
					w = calm(w)
					row := rowOf(foe)
					want := hurts(foe, hurt+luck(w, rowOf(sign), row))
					if w.Ents[row].HP <= hurt+luck(w, rowOf(sign), row) {
						want = falls(string(foe))
					}
					checkStep(t, "a monster stands there", w, player(seat, way.way), want)
					other := ways[(way.way+1)%4]
					checkStep(t, "a monster stands elsewhere", w, player(seat, other.way), goes(sign, 7+other.dx, 7+other.dy))
				}
			}
		}
	}
	// What is worn counts.
	w := with(calm(drawn(".0o.")), sword(0))
	got := Step(w, player(0, api.East)).Ents[rowOf('o')]
	if want := 2 - luck(w, rowOf('0'), rowOf('o')); want > 0 && got.HP != want || want <= 0 && got.Kind != api.ENone {
		t.Errorf("P1002: by a sword: %+v, not %d", got, want)
	}
}

func TestHeroBeforeAHero(t *testing.T) {
	for seat, sign := range []byte("0123") {
		for _, way := range ways {
			for _, other := range []byte("0123") {
				if other != sign {
					w := open()
					put(&w, sign, 7, 7)
					put(&w, other, 7+way.dx, 7+way.dy)
					checkStep(t, "a hero stands there", w, player(seat, way.way), nothing)
				}
			}
		}
	}
}

func TestHeroStunned(t *testing.T) {
	// The gold lies there to be picked up, the rat stands there to be hit, the stair is there to go down.
	w := with(calm(drawn("...", ".>r", "...")), lies(api.IGold, 1, 1), bag(3, api.IPotion, 0), bag(3, api.ISword, 1))
	put(&w, '3', 1, 1)
	w.Ents[rowOf('3')].HP = 5
	for stun := 1; stun <= 9; stun++ {
		w.Ents[rowOf('3')].Stun = stun
		for input := range 11 {
			checkStep(t, "stunned", w, player(3, input), nothing)
		}
		checkStep(t, "a robot, stunned", w, robot(3), nothing)
		checkStep(t, "a robot, stunned, asks for a hero", w, all(robot(3), spawns(3)), nothing)
	}
	// By one less in each frame, so that it acts again in the frame behind the last one.
	w.Ents[rowOf('3')].Stun = 2
	v := Step(Step(w, player(3, api.North)), player(3, api.North))
	if e := v.Ents[rowOf('3')]; e.Y != 1 || e.Stun != 0 {
		t.Errorf("P1002: two frames behind Stun 2: %+v", e)
	}
	if e := Step(v, player(3, api.North)).Ents[rowOf('3')]; e.Y != 0 {
		t.Errorf("P1002: three frames behind Stun 2: %+v", e)
	}
	// The others are not.
	w = drawn("0.", "1.")
	w.Ents[rowOf('0')].Stun = 1
	checkStep(t, "seat 0 is stunned", w, all(player(0, api.East), player(1, api.East)), goes('1', 1, 1))
}

// TestHow: Absent, and what is none, is not moved, whatever the input.
func TestHow(t *testing.T) {
	w := with(drawn("...", ".>.", "..."), lies(api.IGold, 1, 1), bag(2, api.IPotion, 0), bag(2, api.ISword, 1))
	put(&w, '2', 1, 1)
	hows := []int{api.Absent, 3, 4, -1, -2}
	for how := range 3 {
		hows = append(hows, ends(how)...)
	}
	for _, how := range hows {
		for input := -1; input <= 11; input++ {
			a := player(2, input)
			a[2].How = how
			checkStep(t, "nobody moves it", w, a, nothing)
		}
	}
	checkStep(t, "a player", w, player(2, api.West), goes('2', 0, 1))
	// A robot does what it wants, whatever the input says.
	for _, input := range append(ends(4), 0, 1, 2, 3, 4, 5, 6, 7, 8, 9, 10, 11, -1) {
		a := robot(2)
		a[2].Input = input
		checkStep(t, "a robot", w, a, func(v *api.World) { v.Items[2], v.Gold[2] = api.Item{}, 8 })
	}
	// What another seat's act says is that seat's.
	for seat := range api.Seats {
		if seat != 2 {
			checkStep(t, "another seat's act", w, player(seat, api.West), nothing)
		}
	}
}

// TestInputsThatAreNone: any number but 0 to 10 is Stay.
func TestInputsThatAreNone(t *testing.T) {
	shop := with(drawn("...", ".$.", "..."), lies(api.IGold, 1, 1), bag(0, api.IPotion, 0), bag(0, api.ISword, 1), shelf(api.IMail, 0))
	down := with(drawn("...", ".>.", "..."), bag(0, api.IPotion, 0), bag(0, api.ISword, 1))
	for _, w := range []api.World{shop, down} {
		put(&w, '0', 1, 1)
		w.Ents[rowOf('0')].HP, w.Gold[0] = 3, 50
		inputs := []int{0, -1, -2, 11, 12, 13, 99, 255, 256}
		for input := range 11 {
			inputs = append(inputs, ends(input)...)
		}
		for _, input := range inputs {
			checkStep(t, "no input", w, player(0, input), nothing)
		}
	}
}

// TestInputsAtTheEnds: Stay, the first, does nothing; Buy, the last, buys.
func TestInputsAtTheEnds(t *testing.T) {
	w := with(drawn("...", ".$."), shelf(api.ISword, 1))
	put(&w, '1', 1, 1)
	checkStep(t, "0", w, player(1, 0), nothing)
	checkStep(t, "10", w, player(1, 10), func(v *api.World) { v.Items[2], v.Gold[1] = bag(1, api.ISword, 0), 195 })
	checkStep(t, "-1", w, player(1, -1), nothing)
	checkStep(t, "11", w, player(1, 11), nothing)
}

func TestGoods(t *testing.T) {
	w := with(drawn("...", ".$.", "..."), lies(api.IMail, 1, 1), bag(1, api.ISword, 2), bag(1, api.IPotion, 1), shelf(api.IPotion, 2), sword(1), bag(2, api.IMail, 0))
	put(&w, '1', 1, 1)
	w.Ents[rowOf('1')].HP = 11
	lay, hold, drink, ware, worn := 2, 5, 8, 11, 14
	checkStep(t, "Pick", w, player(1, api.Pick), func(v *api.World) { v.Items[lay] = bag(1, api.IMail, 0) })
	checkStep(t, "Use", w, player(1, api.Use), each(func(v *api.World) { v.Items[drink] = api.Item{} }, hurts('1', -6)))
	checkStep(t, "Wear", w, player(1, api.Wear), func(v *api.World) { v.Items[hold], v.Items[worn] = sword(1), bag(1, api.ISword, 2) })
	checkStep(t, "Drop, where an item lies", w, player(1, api.Drop), nothing)
	checkStep(t, "Buy", w, player(1, api.Buy), func(v *api.World) { v.Items[ware], v.Gold[1] = bag(1, api.IPotion, 0), 195 })
	w.Items[lay] = api.Item{}
	checkStep(t, "Drop", w, player(1, api.Drop), func(v *api.World) { v.Items[drink] = lies(api.IPotion, 1, 1) })
	checkStep(t, "Pick, where nothing lies", w, player(1, api.Pick), nothing)
	w.Gold[1] = 4
	checkStep(t, "Buy with too little gold", w, player(1, api.Buy), nothing)
	w.Items[lay] = lies(api.IGold, 1, 1)
	checkStep(t, "Pick of gold", w, player(1, api.Pick), func(v *api.World) { v.Items[lay], v.Gold[1] = api.Item{}, 9 })
}

// TestGoodsAheadOfAil: a potion drunk in time.
func TestGoodsAheadOfAil(t *testing.T) {
	w := with(drawn(".0."), bag(0, api.IPotion, 3))
	w.Ents[rowOf('0')].HP, w.Ents[rowOf('0')].Poison = 1, 9
	saved := func(v *api.World) {
		v.Items[2], v.Ents[rowOf('0')].HP, v.Ents[rowOf('0')].Poison = api.Item{}, 7, 0
	}
	checkStep(t, "Use", w, player(0, api.Use), saved)
	checkStep(t, "a robot", w, robot(0), saved)
	checkStep(t, "nobody moves it", w, api.Acts{}, each(falls("0"), func(v *api.World) { v.Items[2] = api.Item{} }, stands(api.Lost)))
}

// TestRobots: each thing that a robot does is done.
func TestRobots(t *testing.T) {
	w := drawn("0..>")
	checkStep(t, "it goes", w, robot(0), goes('0', 1, 0))
	checkStep(t, "it picks", with(w, lies(api.ISword, 0, 0)), robot(0), func(v *api.World) { v.Items[2] = bag(0, api.ISword, 0) })
	w = calm(drawn("0o.>"))
	checkStep(t, "it hits", w, robot(0), hurts('o', 4+luck(w, rowOf('0'), rowOf('o'))))
	w = drawn(">.")
	put(&w, '0', 0, 0)
	if v := Step(w, robot(0)); v.Floor != 3 || minds.Robot(w, 0) != api.Descend {
		t.Errorf("P1002: a robot on CDown: floor %d", v.Floor)
	}
	w = drawn("0.1..>")
	checkStep(t, "two robots", w, all(robot(0), robot(1)), each(goes('0', 0, 0), goes('1', 3, 0)))
	checkStep(t, "a robot beside a player", w, all(player(0, api.East), robot(1)), each(goes('0', 1, 0), goes('1', 3, 0)))
}

// TestSeatsInOrder: what one did, the next one finds; by seats, not by rows.
func TestSeatsInOrder(t *testing.T) {
	w := drawn("01..")
	checkStep(t, "the lower one first finds the cell taken", w, all(player(0, api.East), player(1, api.East)), goes('1', 2, 0))
	w = drawn("10..")
	checkStep(t, "the lower one first makes room", w, all(player(0, api.East), player(1, api.East)), each(goes('0', 2, 0), goes('1', 1, 0)))
	w = drawn("3210..")
	checkStep(t, "all four, each makes room", w, all(player(0, api.East), player(1, api.East), player(2, api.East), player(3, api.East)), each(goes('0', 4, 0), goes('1', 3, 0), goes('2', 2, 0), goes('3', 1, 0)))
	w = drawn("0123..")
	checkStep(t, "all four, only the last can go", w, all(player(0, api.East), player(1, api.East), player(2, api.East), player(3, api.East)), goes('3', 4, 0))
	w = drawn("2.1")
	checkStep(t, "both want one cell", w, all(player(2, api.East), player(1, api.West)), goes('1', 1, 0))
	w = calm(drawn("2r1"))
	checkStep(t, "the lower one hits, the other one goes there", w, all(player(2, api.East), player(1, api.West)), each(falls("r"), goes('2', 1, 0)))
	checkStep(t, "the lower one hits, a robot goes on", calm(drawn("2r1", "#.#", "#>#")), all(robot(2), player(1, api.West)), each(falls("r"), goes('2', 1, 0)))
}

// TestSeatsShareTheShop: one buys the last item, the next one has none to buy.
func TestSeatsShareTheShop(t *testing.T) {
	w := with(drawn("$$"), shelf(api.IMail, 0), shelf(api.ISword, 2))
	put(&w, '3', 0, 0)
	put(&w, '1', 1, 0)
	buy := all(player(1, api.Buy), player(3, api.Buy))
	checkStep(t, "two wares", w, buy, func(v *api.World) {
		v.Items[2], v.Items[5], v.Gold[1], v.Gold[3] = bag(1, api.IMail, 0), bag(3, api.ISword, 0), 195, 994
	})
	w.Items[5] = api.Item{}
	checkStep(t, "one ware", w, buy, func(v *api.World) { v.Items[2], v.Gold[1] = bag(1, api.IMail, 0), 195 })
}

// Step, part 3: the monsters.

// TestMonsterHits: each kind, each way; what its blow leaves is done in the same frame.
func TestMonsterHits(t *testing.T) {
	for seat, sign := range []byte("0123") {
		for _, way := range ways {
			for foe, hurt := range map[byte]int{'r': 1, 'R': 1, 'o': 3, 'O': 3, 'm': 2, 'M': 2} {
				for frame := 1000; frame < 1007; frame++ {
					w := open()
					w.Frame = frame
					put(&w, foe, 7, 7)
					put(&w, sign, 7+way.dx, 7+way.dy)
					row, hero := rowOf(foe), rowOf(sign)
					checkStep(t, "a hero stands there", w, player(seat, api.Stay), func(v *api.World) {
						e := &v.Ents[hero]
						switch e.HP -= hurt + luck(w, row, hero); kindOf(foe) {
						case api.EMage:
							e.HP, e.Poison = e.HP-1, 2
						case api.EOrc:
							if stuns(w, row, hero) {
								e.Stun = 1
							}
						}
					})
				}
			}
		}
	}
}

// TestMonsterHunts: toward a hero that it sees, not one that only stands behind a wall.
func TestMonsterHunts(t *testing.T) {
	w := drawn("0...r")
	checkStep(t, "it goes for a hero", w, api.Acts{}, goes('r', 3, 0))
	checkStep(t, "it goes for a hero that went away", w, player(0, api.East), each(goes('0', 1, 0), goes('r', 3, 0)))
	w = drawn("0.r", "...")
	checkStep(t, "it hits one that came beside it", w, player(0, api.East), each(goes('0', 1, 0), hurts('0', 1+luck(w, rowOf('r'), rowOf('0')))))
	w = drawn("...", ".0r")
	checkStep(t, "one that went away is not hit", w, player(0, api.West), each(goes('0', 0, 1), goes('r', 1, 1)))
}

// TestMonsterWanders: with nobody near, by the die of the frame that is made.
func TestMonsterWanders(t *testing.T) {
	for _, sign := range []byte("romROM") {
		for shows := range 8 {
			w := open()
			put(&w, sign, 7, 7)
			w = framed(t, w, func(v api.World) bool { return whim(v, rowOf(sign)) == shows })
			want := nothing
			for _, way := range ways {
				if way.way == shows {
					want = goes(sign, 7+way.dx, 7+way.dy)
				}
			}
			checkStep(t, "nobody near", w, api.Acts{}, want)
			put(&w, '1', 15, 7)
			checkStep(t, "a hero far away", w, api.Acts{}, want)
		}
	}
}

// TestMonsterCantGo: to a wall, off the floor, to another monster.
func TestMonsterCantGo(t *testing.T) {
	for _, way := range ways {
		for _, x := range []int{0, 23} {
			for _, y := range []int{0, 15} {
				w := open()
				put(&w, 'm', x, y)
				w = framed(t, w, func(v api.World) bool { return whim(v, rowOf('m')) == way.way })
				want := nothing
				if x+way.dx >= 0 && x+way.dx < 24 && y+way.dy >= 0 && y+way.dy < 16 {
					want = goes('m', x+way.dx, y+way.dy)
				}
				checkStep(t, "in a corner", w, api.Acts{}, want)
			}
		}
		w := open()
		put(&w, 'm', 7, 7)
		w.Cells[at(7+way.dx, 7+way.dy)] = api.CWall
		w = framed(t, w, func(v api.World) bool { return whim(v, rowOf('m')) == way.way })
		checkStep(t, "a wall", w, api.Acts{}, nothing)
		w.Cells[at(7+way.dx, 7+way.dy)] = api.CFloor
		put(&w, 'o', 7+way.dx, 7+way.dy)
		w.Ents[rowOf('o')].Stun = 4
		checkStep(t, "another monster", w, api.Acts{}, nothing)
	}
}

func TestMonsterStunned(t *testing.T) {
	for stun := 1; stun <= 9; stun++ {
		for _, sign := range []byte("romROM") {
			w := drawn("...", string(sign)+"0.", "...")
			w.Ents[rowOf(sign)].Stun = stun
			checkStep(t, "stunned beside a hero", w, api.Acts{}, nothing)
			w = drawn("....", string(sign)+"..0", "....")
			w.Ents[rowOf(sign)].Stun = stun
			checkStep(t, "stunned, a hero in sight", w, api.Acts{}, nothing)
			w = open()
			put(&w, sign, 7, 7)
			w.Ents[rowOf(sign)].Stun = stun
			for w.Frame = 1000; w.Frame < 1006; w.Frame++ {
				checkStep(t, "stunned, nobody near", w, api.Acts{}, nothing)
			}
		}
	}
	// Stun 1 is gone by Ail behind it, and then it hits.
	w := drawn("r0")
	w.Ents[rowOf('r')].Stun = 1
	v := Step(w, api.Acts{})
	checkStep(t, "stunned no more", v, api.Acts{}, hurts('0', 1+luck(v, rowOf('r'), rowOf('0'))))
}

// TestMonsterFallsAheadOfItsTurn: the seats come first.
func TestMonsterFallsAheadOfItsTurn(t *testing.T) {
	for _, sign := range []byte("rR") {
		w := drawn("0" + string(sign))
		checkStep(t, "it falls, and does not hit", w, player(0, api.East), falls(string(sign)))
		checkStep(t, "it falls by a robot", w, robot(0), falls(string(sign)))
	}
	w := drawn("r0R")
	checkStep(t, "one falls, the other one hits", w, player(0, api.West), each(falls("r"), hurts('0', 1+luck(w, rowOf('R'), rowOf('0')))))
	// The cell of one that fell is free for the next one.
	w = drawn("0ro")
	checkStep(t, "one falls, the next one comes up", w, player(0, api.East), each(falls("r"), goes('o', 1, 0)))
}

// TestMonstersInOrder: the lower row first: it has the cell that both want.
func TestMonstersInOrder(t *testing.T) {
	for _, x := range []struct {
		rows  []string
		first byte
	}{
		{[]string{"#0#", "r.o"}, 'r'}, {[]string{"#0#", "o.r"}, 'r'}, {[]string{"#0#", "o.m"}, 'o'}, {[]string{"#0#", "m.o"}, 'o'}, {[]string{"#0#", "M.m"}, 'm'}, {[]string{"#0#", "m.M"}, 'm'}, {[]string{"#0#", "M.R"}, 'R'}, {[]string{"#0#", "R.r"}, 'R'}, {[]string{"#3#", "O.r"}, 'O'},
	} {
		checkStep(t, strings.Join(x.rows, "/"), drawn(x.rows...), api.Acts{}, goes(x.first, 1, 1))
	}
	// A stunned one lets the other one go first.
	w := drawn("#0#", "r.o")
	w.Ents[rowOf('r')].Stun = 1
	checkStep(t, "the first one is stunned", w, api.Acts{}, goes('o', 1, 1))
	// Each blow finds what the one ahead left.
	w = drawn("r0R")
	w.Ents[rowOf('0')].HP = 20
	checkStep(t, "two hit", w, api.Acts{}, hurts('0', 2+luck(w, rowOf('r'), rowOf('0'))+luck(w, rowOf('R'), rowOf('0'))))
}

// TestMonstersBehindAFall: the first one's blow fells the hero; the next one goes for another hero, or its own way.
func TestMonstersBehindAFall(t *testing.T) {
	w := drawn("r0o..1")
	w.Ents[rowOf('0')].HP = 1
	w = with(w, bag(0, api.IPotion, 0), sword(0), bag(1, api.ISword, 0))
	swept := func(v *api.World) { v.Items[2], v.Items[5] = api.Item{}, api.Item{} }
	checkStep(t, "the next one goes for another", w, api.Acts{}, each(falls("0"), swept, goes('o', 3, 0)))
	w = drawn("r0o......")
	w.Ents[rowOf('0')].HP = 1
	for shows, x := range map[int]int{api.West: 1, api.East: 3, api.North: 2, api.Stay: 2} {
		v := framed(t, w, func(v api.World) bool { return whim(v, rowOf('o')) == shows })
		checkStep(t, "the next one goes its own way", v, api.Acts{}, each(falls("0"), goes('o', x, 0), stands(api.Lost)))
	}
}

// Step, part 4: Ail, and rats.

func TestAilBehindMonsters(t *testing.T) {
	// A poisoned one still does what it wants, and then falls.
	w := drawn("r0")
	w.Ents[rowOf('r')].HP, w.Ents[rowOf('r')].Poison = 1, 3
	checkStep(t, "a rat hits and falls", w, api.Acts{}, each(falls("r"), hurts('0', 1+luck(w, rowOf('r'), rowOf('0')))))
	w = calm(drawn("0r.1"))
	w.Ents[rowOf('0')].HP, w.Ents[rowOf('0')].Poison = 1, 1
	checkStep(t, "a hero hits and falls", w, player(0, api.East), falls("0r"))
	w = drawn("0..", "..1")
	w.Ents[rowOf('0')].HP, w.Ents[rowOf('0')].Poison = 9, 9
	checkStep(t, "a poisoned hero goes", w, player(0, api.East), each(goes('0', 1, 0), hurts('0', 1), func(v *api.World) { v.Ents[rowOf('0')].Poison = 8 }))
	// A stun of this frame is one less at its end: it holds in the next one alone.
	w = drawn("o0.")
	w = framed(t, w, func(v api.World) bool { return stuns(v, rowOf('o'), rowOf('0')) })
	checkStep(t, "an orc stuns", w, api.Acts{}, each(hurts('0', 3+luck(w, rowOf('o'), rowOf('0'))), func(v *api.World) { v.Ents[rowOf('0')].Stun = 1 }))
	v := Step(w, api.Acts{})
	v.Ents[rowOf('o')].Stun = 5
	checkStep(t, "stunned by it", v, player(0, api.East), nothing)
	// Who falls by the blow is not ailed; who falls by poison is swept.
	w = with(drawn("0..1"), sword(0), bag(0, api.IPotion, 2), mail(1))
	w.Ents[rowOf('0')].HP, w.Ents[rowOf('0')].Poison = 1, 5
	checkStep(t, "a hero falls by poison", w, api.Acts{}, each(falls("0"), func(v *api.World) { v.Items[2], v.Items[5] = api.Item{}, api.Item{} }))
}

// TestRats: in each frame that is a multiple of Period, and in no other one.
func TestRats(t *testing.T) {
	w := drawn("<..", "..0")
	for _, frame := range []int{0, 1 << 20, 1<<30 - 40} {
		for w.Frame = frame; w.Frame < frame+39; w.Frame++ {
			want := nothing
			if (w.Frame+1)%16 == 0 {
				want = comes(0, api.ERat, 0, 0, 0)
			}
			checkStep(t, "a free stair", w, api.Acts{}, want)
		}
	}
	for _, x := range []struct {
		frame int
		rat   bool
	}{{0, false}, {14, false}, {15, true}, {16, false}, {30, false}, {31, true}, {32, false}, {47, true}, {63, true}, {1599, true}, {1600, false}} {
		w.Frame = x.frame
		if v := Step(w, api.Acts{}); (v.Ents[0] == api.Ent{Kind: api.ERat, Gen: 201, HP: 4, Max: 4, Atk: 2}) != x.rat {
			t.Errorf("P1002: frame %d: %+v", v.Frame, v.Ents[0])
		}
	}
	// Nobody need be there for it.
	w = drawn("..", ".<")
	w.Frame = 15
	checkStep(t, "nobody else", w, api.Acts{}, comes(0, api.ERat, 0, 1, 1))
}

func TestRatsStairTaken(t *testing.T) {
	for _, sign := range []byte("0123romROM") {
		w := drawn("<..")
		w.Frame = 159
		put(&w, sign, 0, 0)
		w = calm(w)
		checkStep(t, "one on the stair", w, api.Acts{}, nothing)
		// It is asked at the end: one that goes away in this frame makes room, one that goes there takes it.
		if sign < '4' {
			checkStep(t, "one leaves the stair", w, player(int(sign-'0'), api.East), each(goes(sign, 1, 0), comes(0, api.ERat, 0, 0, 0)))
			w.Ents[rowOf(sign)].X = 1
			checkStep(t, "one comes to the stair", w, player(int(sign-'0'), api.West), goes(sign, 0, 0))
		}
	}
	// Who falls by Ail on the stair makes room, and its row is free.
	w := drawn("<..1")
	w.Frame = 15
	put(&w, '0', 0, 0)
	w.Ents[rowOf('0')].HP, w.Ents[rowOf('0')].Poison = 1, 1
	checkStep(t, "one falls on the stair", w, api.Acts{}, each(falls("0"), comes(0, api.ERat, 0, 0, 0)))
	w = drawn("<..")
	w.Frame = 15
	put(&w, '0', 0, 0)
	w.Ents[rowOf('0')].HP, w.Ents[rowOf('0')].Poison = 1, 1
	checkStep(t, "the last one falls on the stair", w, api.Acts{}, each(falls("0"), comes(0, api.ERat, 0, 0, 0), stands(api.Lost)))
	// Who comes in this frame takes it.
	w = drawn("<..")
	w.Frame = 15
	checkStep(t, "a hero comes", w, spawns(1), comes(0, api.EHero, 1, 0, 0))
	checkStep(t, "a hero comes and goes", w, all(spawns(1), player(1, api.East)), each(comes(0, api.EHero, 1, 1, 0), comes(1, api.ERat, 0, 0, 0)))
}

func TestRatsRows(t *testing.T) {
	for row := range api.MaxEnts {
		w := crowd(row)
		w.Frame = 31
		checkStep(t, "one row free", w, api.Acts{}, comes(row, api.ERat, 0, 23, 0))
		w.Ents[row].Gen = 255
		checkStep(t, "one row free, Gen 255", w, api.Acts{}, comes(row, api.ERat, 0, 23, 0))
		checkStep(t, "one row free, and a hero comes", w, all(spawns(0), player(0, api.West)), comes(row, api.EHero, 0, 22, 0))
		w = crowd()
		w.Frame = 31
		checkStep(t, "no row free", w, api.Acts{}, nothing)
		w.Ents[row].HP, w.Ents[row].Poison = 1, 2
		checkStep(t, "a row that becomes free by Ail", w, api.Acts{}, comes(row, api.ERat, 0, 23, 0))
	}
}

// TestRatsWait: one that comes does nothing in this frame.
func TestRatsWait(t *testing.T) {
	w := drawn("<0")
	w.Frame = 15
	checkStep(t, "beside a hero", w, api.Acts{}, comes(0, api.ERat, 0, 0, 0))
	v := Step(w, api.Acts{})
	checkStep(t, "in the next frame", v, api.Acts{}, hurts('0', 1+luck(v, 0, rowOf('0'))))
}

// Step, part 5: how it ends.

func TestNoHeroEver(t *testing.T) {
	for _, w := range []api.World{drawn("<.."), drawn("<..r.o"), New(4), crowd()} {
		for range 40 {
			if w = Step(w, all(player(0, api.East), robot(1))); w.State != api.Running {
				t.Fatalf("P1002: nobody was ever there, and it is %d at frame %d", w.State, w.Frame)
			}
		}
	}
	// One that is refused did not come.
	if v := Step(crowd(), spawns(0)); v.State != api.Running {
		t.Errorf("P1002: one is refused: %d", v.State)
	}
}

func TestLastHeroFalls(t *testing.T) {
	for _, sign := range []byte("0123") {
		w := drawn(string(sign) + "r")
		w.Ents[rowOf(sign)].HP = 1
		checkStep(t, "by a blow", w, api.Acts{}, each(falls(string(sign)), stands(api.Lost)))
		w = drawn(string(sign) + ".")
		w.Ents[rowOf(sign)].HP, w.Ents[rowOf(sign)].Poison = 1, 1
		checkStep(t, "by poison", w, api.Acts{}, each(falls(string(sign)), stands(api.Lost)))
		w.Ents[rowOf(sign)].HP = 2
		checkStep(t, "not yet", w, api.Acts{}, each(hurts(sign, 1), func(v *api.World) { v.Ents[rowOf(sign)].Poison = 0 }))
	}
	w := drawn("r0..1o")
	w.Ents[rowOf('0')].HP, w.Ents[rowOf('1')].HP = 1, 1
	checkStep(t, "both fall", w, api.Acts{}, each(falls("01"), stands(api.Lost)))
	w = calm(w)
	w.Ents[rowOf('r')].Stun = 0
	checkStep(t, "one is left", w, api.Acts{}, falls("0"))
	// Another one that comes in this frame is there; a seat whose hero falls has it no more.
	w = drawn("r0#<#.")
	w.Ents[rowOf('0')].HP = 1
	checkStep(t, "another one comes", w, spawns(2), each(falls("0"), comes(0, api.EHero, 2, 3, 0)))
	checkStep(t, "it asks for one while it has one", w, spawns(0), each(falls("0"), stands(api.Lost)))
	// Once lost, nobody comes any more.
	v := Step(Step(w, api.Acts{}), spawns(0, 1, 2, 3))
	if v.State != api.Lost || v.Frame != w.Frame+2 || slices.ContainsFunc(v.Ents, isHero) {
		t.Errorf("P1002: behind the end: state %d, frame %d", v.State, v.Frame)
	}
}

// TestComesAndFalls: four orcs whose dice show the most fell one who comes among them.
func TestComesAndFalls(t *testing.T) {
	w := open()
	w.Cells[at(23, 0)], w.Cells[at(7, 7)] = api.CFloor, api.CUp
	var orcs []int
	for _, way := range ways {
		orcs = append(orcs, put(&w, 'o', 7+way.dx, 7+way.dy))
	}
	w = framed(t, w, func(v api.World) bool {
		return luck(v, orcs[0], 0)+luck(v, orcs[1], 0)+luck(v, orcs[2], 0)+luck(v, orcs[3], 0) == 8
	})
	gone := func(v *api.World) { v.Ents[0] = api.Ent{Gen: v.Ents[0].Gen + 1} }
	checkStep(t, "comes and falls", w, spawns(3), each(gone, stands(api.Lost)))
	checkStep(t, "nobody comes", calm(w), api.Acts{}, nothing)
	// Another one is there, or comes beside: it goes on.
	far := changed(w, func(v *api.World) { put(v, '0', 20, 12) })
	checkStep(t, "comes and falls, another one is there", far, spawns(3), gone)
	// Of two that come the first one stands among the orcs.
	if got := Step(w, spawns(1, 2)); got.State != api.Running || ents.Hero(got.Ents, 1) >= 0 || ents.Hero(got.Ents, 2) < 0 {
		t.Errorf("P1002: two come, one falls: state %d", got.State)
	}
}

// Leaving a floor.

// onStair is a world with the heroes that are named, the first one on CDown, others and monsters about, all of them stunned; and items everywhere.
func onStair(seed int64, floor int, heroes string) api.World {
	w := open()
	w.Seed, w.Floor = seed, floor
	for i, sign := range []byte(heroes) {
		put(&w, sign, 5*i, 15)
	}
	for i, sign := range []byte("romROM") {
		put(&w, sign, 3*i, 4)
	}
	w = with(calm(w), lies(api.IPotion, 3, 3), bag(0, api.ISword, 1), shelf(api.IPotion, 1), sword(2), lies(api.IGold, 0, 15), bag(3, api.IMail, 3), mail(1), shelf(api.ISword, 0), bag(1, api.IPotion, 0), lies(api.IMail, 9, 9))
	return w
}

// seatOf is the seat of a hero that is drawn.
func seatOf(sign byte) int { return int(sign - '0') }

func TestDescend(t *testing.T) {
	for seed := range int64(30) {
		for _, heroes := range []string{"0", "1", "2", "3", "02", "31", "123", "3210", "0123"} {
			for floor := 1; floor <= 2; floor++ {
				w := onStair(seed-9, floor, heroes)
				checkStep(t, "down", w, player(seatOf(heroes[0]), api.Descend), func(v *api.World) { *v = below(t, *v) })
			}
			w := onStair(seed-9, 3, heroes)
			checkStep(t, "out", w, player(seatOf(heroes[0]), api.Descend), stands(api.Won))
		}
	}
}

// TestDescendByHand: what is there behind it, told apart from below.
func TestDescendByHand(t *testing.T) {
	for seed := range int64(40) {
		w := onStair(seed, 1, "3021")
		w.Ents[rowOf('2')].HP, w.Ents[rowOf('2')].Poison, w.Ents[rowOf('1')].Stun = 7, 4, 3
		v := Step(w, player(3, api.Descend))
		level, _ := gen.Make(seed, 2)
		if v.Floor != 2 || v.State != api.Running || v.Frame != w.Frame+1 || v.Seed != seed || v.Gold != w.Gold || !slices.Equal(v.Cells, level.Cells) {
			t.Fatalf("P1002: seed %d: floor %d, state %d, frame %d, gold %v", seed, v.Floor, v.State, v.Frame, v.Gold)
		}
		up := slices.Index(level.Cells, api.CUp)
		var steps []int
		for _, sign := range []byte("0123") {
			e, was := v.Ents[rowOf(sign)], w.Ents[rowOf(sign)]
			steps = append(steps, far(level.Cells, up, at(e.X, e.Y)))
			if e.X, e.Y = was.X, was.Y; sign == '2' && (e.HP != 6 || e.Poison != 3) || sign == '1' && e.Stun != 2 || sign == '0' && e != was {
				t.Errorf("P1002: seed %d, hero %c: %+v", seed, sign, e)
			}
		}
		// The lowest seat stands on the stair, the others as near as may be, each next one no nearer.
		if steps[0] != 0 || steps[1] != 1 || !slices.IsSorted(steps) || steps[3] > 3 {
			t.Errorf("P1002: seed %d: the heroes are %v steps away", seed, steps)
		}
		monsters := 0
		for row, e := range v.Ents {
			switch {
			case e.Kind >= api.ERat:
				monsters++
				was := w.Ents[row].Gen
				e.Gen = 0
				if !slices.Contains(level.Ents, e) || v.Ents[row].Gen != (was+1)%256 {
					t.Errorf("P1002: seed %d, row %d: %+v", seed, row, v.Ents[row])
				}
			case e.Kind == api.ENone && e != api.Ent{Gen: w.Ents[row].Gen}:
				t.Errorf("P1002: seed %d, row %d: %+v", seed, row, e)
			}
		}
		if monsters != len(level.Ents) {
			t.Errorf("P1002: seed %d: %d monsters", seed, monsters)
		}
		checkItemsBelow(t, w, v, level)
	}
}

// checkItemsBelow holds the items behind a floor that was left against those ahead of it: what is carried or worn is in its row, the new floor's are in the lowest rows that are gone.
func checkItemsBelow(t *testing.T, w, v api.World, level gen.Level) {
	t.Helper()
	left := level.Items
	for row, item := range w.Items {
		switch {
		case item.Where == api.WBag || item.Where == api.WWorn:
			if v.Items[row] != item {
				t.Errorf("P1002: item %d: %+v, not %+v", row, v.Items[row], item)
			}
		case len(left) > 0:
			if v.Items[row] != left[0] {
				t.Errorf("P1002: item %d: %+v, not %+v", row, v.Items[row], left[0])
			}
			left = left[1:]
		case v.Items[row] != api.Item{}:
			t.Errorf("P1002: item %d: %+v is not gone", row, v.Items[row])
		}
	}
}

// far is how many steps lead from one cell to another.
func far(cells []byte, from, to int) int {
	steps := map[int]int{from: 0}
	for ring := []int{from}; len(ring) > 0; ring = ring[1:] {
		x, y := ring[0]%24, ring[0]/24
		for _, way := range ways {
			next := at(x+way.dx, y+way.dy)
			if _, ok := steps[next]; walkable(cells, x+way.dx, y+way.dy) && !ok {
				steps[next] = steps[ring[0]] + 1
				ring = append(ring, next)
			}
		}
	}
	if n, ok := steps[to]; ok {
		return n
	}
	return -1
}

// TestDescendElsewhere: only on CDown is the floor left.
func TestDescendElsewhere(t *testing.T) {
	for floor := 1; floor <= 3; floor++ {
		for seat, sign := range []byte("0123") {
			for _, kind := range []string{".", "+", "<", "$"} {
				w := drawn("...", "."+kind+">", "...")
				w.Floor = floor
				put(&w, sign, 1, 1)
				checkStep(t, "Descend on "+kind, w, player(seat, api.Descend), nothing)
			}
		}
	}
	w := onStair(1, 1, "0123")
	checkStep(t, "another one than that on the stair", w, all(player(1, api.Descend), player(2, api.Descend), player(3, api.Descend)), nothing)
	checkStep(t, "on the stair, without Descend", w, player(0, api.Stay), nothing)
	a := player(0, api.Descend)
	a[0].How = api.Absent
	checkStep(t, "on the stair, absent", w, a, nothing)
}

// TestDescendAtTheEnd: all else of the frame is done on the floor that is left.
func TestDescendAtTheEnd(t *testing.T) {
	w := drawn(">.10r", "#..3#", "<....")
	put(&w, '2', 0, 0)
	w = with(w, lies(api.IPotion, 3, 1), lies(api.IGold, 2, 0))
	w.Ents[rowOf('3')].Poison = 2
	a := all(player(2, api.Descend), player(0, api.Stay), player(3, api.Pick), player(1, api.Pick))
	checkStep(t, "seats and monsters go on", w, a, func(v *api.World) {
		v.Items[2], v.Items[5], v.Gold[1] = bag(3, api.IPotion, 0), api.Item{}, 205
		hurts('0', 1+luck(w, rowOf('r'), rowOf('0')))(v)
		hurts('3', 1)(v)
		v.Ents[rowOf('3')].Poison = 1
		*v = below(t, *v)
	})
	// The rat of this frame comes and is freed: its row has another Gen.
	w = drawn(">.", "<.")
	put(&w, '2', 0, 0)
	w.Frame = 15
	v := Step(w, player(2, api.Descend))
	if v.Ents[0].Gen != 202 || v.Ents[0].Kind < api.ERat || v.Ents[1].Gen != 202 {
		t.Errorf("P1002: a rat in a frame in which the floor is left: %+v", v.Ents[:2])
	}
	checkStep(t, "a rat in the last frame of a floor", w, player(2, api.Descend), func(v *api.World) {
		comes(0, api.ERat, 0, 0, 1)(v)
		*v = below(t, *v)
	})
	// Who comes in this frame comes along.
	w = drawn(">.", "<.")
	put(&w, '2', 0, 0)
	checkStep(t, "one comes", w, all(player(2, api.Descend), spawns(1)), func(v *api.World) {
		comes(0, api.EHero, 1, 0, 1)(v)
		*v = below(t, *v)
	})
	checkStep(t, "one steps on the stair, and does not go down", changed(w, goes('2', 1, 0)), all(player(2, api.West), spawns(3)), each(comes(0, api.EHero, 3, 0, 1), goes('2', 0, 0)))
}

// TestDescendAndFall: the one who went down falls.
func TestDescendAndFall(t *testing.T) {
	for floor := 1; floor <= 3; floor++ {
		w := onStair(8, floor, "2")
		w.Ents[rowOf('2')].HP, w.Ents[rowOf('2')].Poison = 1, 3
		lost := each(falls("2"), stands(api.Lost), func(v *api.World) { v.Items[11] = api.Item{} })
		checkStep(t, "the last hero falls", w, player(2, api.Descend), lost)
		checkStep(t, "the last hero falls, and does not go down", w, player(2, api.Stay), lost)
		// Another one is there: the floor is left without the one who left it.
		w = onStair(8, floor, "23")
		w.Ents[rowOf('2')].HP, w.Ents[rowOf('2')].Poison = 1, 3
		checkStep(t, "another one is left", w, player(2, api.Descend), func(v *api.World) {
			falls("2")(v)
			if v.Items[11] = (api.Item{}); floor == 3 {
				v.State = api.Won
				return
			}
			*v = below(t, *v)
		})
		// The other one falls: the one who went down is there.
		w = onStair(8, floor, "23")
		w.Ents[rowOf('3')].HP, w.Ents[rowOf('3')].Poison = 1, 3
		checkStep(t, "the other one falls", w, player(2, api.Descend), func(v *api.World) {
			falls("3")(v)
			if v.Items[17] = (api.Item{}); floor == 3 {
				v.State = api.Won
				return
			}
			*v = below(t, *v)
		})
	}
	w := drawn(">r", "##")
	put(&w, '0', 0, 0)
	w.Ents[rowOf('0')].HP = 1
	checkStep(t, "by a blow", w, player(0, api.Descend), each(falls("0"), stands(api.Lost)))
}

// TestMonstersWhoseCellIsTaken: no floor of gen has a monster where a hero comes to stand, so this is asked of lists that are laid by hand.
func TestMonstersWhoseCellIsTaken(t *testing.T) {
	monster := func(kind, x, y int) api.Ent {
		e := ents.Stats(kind)
		e.X, e.Y = x, y
		return e
	}
	l := make([]api.Ent, api.MaxEnts)
	hero := monster(api.EHero, 4, 4)
	l[1] = hero
	was := slices.Clone(l)
	rat, orc, mage := monster(api.ERat, 3, 4), monster(api.EOrc, 4, 4), monster(api.EMage, 5, 4)
	got := joined(l, rat, orc, mage, monster(api.ERat, 3, 4))
	rat.Gen, mage.Gen = 1, 1
	if want := append([]api.Ent{rat, hero, mage}, make([]api.Ent, 29)...); !slices.Equal(got, want) || !slices.Equal(l, was) {
		t.Errorf("P1002: one cell of three is taken: %+v", got[:4])
	}
	full := crowd(7).Ents
	got = joined(full, monster(api.EOrc, 20, 10), mage, rat)
	want := slices.Clone(full)
	want[7] = monster(api.EOrc, 20, 10)
	want[7].Gen = 208
	if !slices.Equal(got, want) {
		t.Errorf("P1002: one row for three: %+v", got[7])
	}
}

// TestHeroesOfTheNextFloor: those who are not placed yet stand in nobody's way, wherever they stood.
func TestHeroesOfTheNextFloor(t *testing.T) {
	for seed := range int64(20) {
		level, _ := gen.Make(seed, 2)
		up := slices.Index(level.Cells, api.CUp)
		w := open()
		w.Seed, w.Floor = seed, 1
		// Seat 3 leaves from where the next floor's up stair is, the others stand around it.
		w.Cells[at(0, 15)], w.Cells[up] = api.CFloor, api.CDown
		put(&w, '3', up%24, up/24)
		put(&w, '2', up%24-1, up/24)
		put(&w, '1', up%24+1, up/24)
		put(&w, '0', up%24, up/24-1)
		checkStep(t, "from around the next stair", w, player(3, api.Descend), func(v *api.World) { *v = below(t, *v) })
		v := Step(w, player(3, api.Descend))
		if e := v.Ents[rowOf('0')]; at(e.X, e.Y) != up {
			t.Errorf("P1002: seed %d: seat 0 stands at (%d, %d)", seed, e.X, e.Y)
		}
	}
}

// TestFightsAreFights: what a frame does by the layers below is what they do, one by one.
func TestFightsAreFights(t *testing.T) {
	for frame := 1000; frame < 1060; frame++ {
		if (frame+1)%16 == 0 {
			continue
		}
		w := with(drawn("m0o", ".r."), mail(0), sword(0), bag(0, api.IPotion, 1))
		w.Frame, w.Ents[rowOf('0')].HP = frame, 4+frame%17
		v := twinOf(w)
		v.Frame++
		v = fight.Hit(v, rowOf('0'), rowOf('o'))
		for _, row := range []int{rowOf('r'), rowOf('o'), rowOf('m')} {
			v = fight.Hit(v, row, rowOf('0'))
			if v.Ents[rowOf('0')].Kind == api.ENone {
				break // those behind it see nobody, and go their own way
			}
		}
		if v.Ents[rowOf('0')].Kind == api.ENone {
			continue
		}
		v = fight.Ail(v)
		if v.Ents[rowOf('0')].Kind == api.ENone {
			v.State = api.Lost
		}
		checkSame(t, "P1002: blows", Step(w, player(0, api.East)), v)
	}
}
