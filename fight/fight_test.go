package fight

import (
	"math"
	"math/rand/v2"
	"slices"
	"sync"
	"testing"

	"adit/api"
	"adit/dice"
	"adit/ents"
	"adit/gen"
	"adit/goods"
)

// The worlds of these tests: heroes in rows 1, 6 and 7 (seats 0, 2, 3; seat 1 has none), an orc in row 2, a mage in row 3, a rat in row 31.
const (
	seat0 = 1
	orc   = 2
	mage  = 3
	seat2 = 6
	seat3 = 7
	rat   = 31
	gone  = 4 // a row that is free
)

// taken are the rows that are not free.
var taken = []int{seat0, orc, mage, seat2, seat3, rat}

// world is one that may be; all that a blow should leave alone has a number of its own.
func world() api.World {
	w := api.World{Seed: -77, Frame: 1234, Floor: 2, State: api.Running, Gold: [api.Seats]int{100, 200, 300, 400}}
	w.Cells = make([]byte, api.Cells)
	for y := 1; y < 4; y++ {
		for x := 1; x < 8; x++ {
			w.Cells[y*api.Wide+x] = api.CFloor
		}
	}
	w.Cells[25], w.Cells[26], w.Cells[29], w.Cells[31] = api.CUp, api.CDoor, api.CShop, api.CDown
	w.Ents = make([]api.Ent, api.MaxEnts)
	for i := range w.Ents {
		w.Ents[i].Gen = 100 + i
	}
	w.Ents[seat0] = api.Ent{Kind: api.EHero, Gen: 9, X: 1, Y: 2, HP: 13, Max: 20, Atk: 5, Def: 1}
	w.Ents[orc] = api.Ent{Kind: api.EOrc, Gen: 8, X: 7, Y: 3, HP: 8, Max: 9, Atk: 4, Def: 1}
	w.Ents[mage] = api.Ent{Kind: api.EMage, Gen: 0, X: 6, Y: 3, HP: 5, Max: 6, Atk: 3}
	w.Ents[seat2] = api.Ent{Kind: api.EHero, Gen: 7, Seat: 2, X: 3, Y: 1, HP: 10, Max: 20, Atk: 5, Def: 1}
	w.Ents[seat3] = api.Ent{Kind: api.EHero, Gen: 255, Seat: 3, X: 5, Y: 1, HP: 20, Max: 20, Atk: 5, Def: 1}
	w.Ents[rat] = api.Ent{Kind: api.ERat, Gen: 5, X: 2, Y: 3, HP: 3, Max: 4, Atk: 2}
	w.Items = make([]api.Item, api.MaxItems)
	return w
}

// ill is that world with all that blows leave, from row to row another.
func ill() api.World {
	w := world()
	for i, row := range taken {
		w.Ents[row].Poison, w.Ents[row].Stun = i, 9-i
	}
	return w
}

func bag(seat, kind, slot int) api.Item {
	return api.Item{Kind: kind, Where: api.WBag, A: seat, B: slot}
}
func sword(seat int) api.Item       { return api.Item{Kind: api.ISword, Where: api.WWorn, A: seat} }
func mail(seat int) api.Item        { return api.Item{Kind: api.IMail, Where: api.WWorn, A: seat, B: 1} }
func cell(kind, x, y int) api.Item  { return api.Item{Kind: kind, Where: api.WCell, A: x, B: y} }
func shelf(kind, slot int) api.Item { return api.Item{Kind: kind, Where: api.WShop, A: slot} }

// laden is that world with items everywhere: each seat has some in its bag and wears both, others lie on cells and in the shop.
func laden() api.World {
	w := ill()
	l := w.Items[:1]
	for seat := range api.Seats {
		l = append(l, bag(seat, api.IPotion, 3), cell(api.IGold, seat+1, 1), sword(seat), bag(seat, api.ISword, 0), cell(api.IMail, seat+1, 2), mail(seat), bag(seat, api.IMail, 2))
	}
	for slot := range api.Shelf {
		l = append(l, shelf(api.IPotion, slot))
	}
	w.Items = append(l, make([]api.Item, api.MaxItems-len(l))...)
	return w
}

// wears is a world with some items worn, and swords and mails of the same seats that are not.
func wears(w api.World, worn ...api.Item) api.World {
	w.Items = make([]api.Item, api.MaxItems)
	copy(w.Items[3:], worn)
	for seat := range api.Seats {
		w.Items[20+seat], w.Items[30+seat] = bag(seat, api.ISword, 1), bag(seat, api.IMail, 2)
	}
	w.Items[8], w.Items[9] = shelf(api.ISword, 0), cell(api.IMail, 2, 1)
	return w
}

// same tells whether all is the same in two worlds.
func same(a, b api.World) bool {
	return a.Seed == b.Seed && a.Frame == b.Frame && a.Floor == b.Floor && a.State == b.State && a.Gold == b.Gold &&
		slices.Equal(a.Cells, b.Cells) && slices.Equal(a.Ents, b.Ents) && slices.Equal(a.Items, b.Items)
}

func twinOf(w api.World) api.World {
	w.Cells, w.Ents, w.Items = slices.Clone(w.Cells), slices.Clone(w.Ents), slices.Clone(w.Items)
	return w
}

// with is a world with another entity in a row.
func with(w api.World, row int, change func(e *api.Ent)) api.World {
	w = twinOf(w)
	change(&w.Ents[row])
	return w
}

// without is a world in which a row is free: all zero but Gen.
func without(w api.World, row int) api.World {
	return with(w, row, func(e *api.Ent) { *e = api.Ent{Gen: e.Gen} })
}

// swept is a world in which a seat has nothing.
func swept(w api.World, seat int) api.World {
	w = twinOf(w)
	for i, item := range w.Items {
		if item.A == seat && (item.Where == api.WBag || item.Where == api.WWorn) {
			w.Items[i] = api.Item{}
		}
	}
	return w
}

// told are the entities and items of a world that are there, for messages.
func told(w api.World) (map[int]api.Ent, map[int]api.Item) {
	l, items := map[int]api.Ent{}, map[int]api.Item{}
	for row, e := range w.Ents {
		if e != (api.Ent{Gen: e.Gen}) {
			l[row] = e
		}
	}
	for row, item := range w.Items {
		if item != (api.Item{}) {
			items[row] = item
		}
	}
	return l, items
}

func checkSame(t *testing.T, promise, what string, got, want api.World) {
	t.Helper()
	if !same(got, want) {
		l, items := told(got)
		wantEnts, wantItems := told(want)
		t.Errorf("%s: %s:\n%+v, %v, gold %v\nnot\n%+v, %v, gold %v", promise, what, l, items, got.Gold, wantEnts, wantItems, want.Gold)
	}
}

// ends are numbers at both ends of their range, and such as are a small one modulo a power of 2.
func ends(n int) []int {
	return []int{math.MinInt, math.MinInt + n, math.MaxInt, math.MaxInt - n, n - 1<<32, n + 1<<32, n + 1<<31, n + 1<<16, n + 256, n - 256, n + 1<<62, ^n}
}

// noRows are numbers that are none of a list with so many rows.
func noRows(rows int) []int {
	out := []int{-1, -2, -31, -32, -33, rows, rows + 1, rows + 2, 2 * rows, 1000}
	for _, row := range append([]int{0, rows - 1}, taken...) {
		out = append(out, ends(row)...)
	}
	return slices.DeleteFunc(out, func(row int) bool { return row >= 0 && row < rows })
}

// frameOf is one at which the dice of a blow show these numbers; a number below 0: any.
func frameOf(t *testing.T, seed int64, from, to, luck, stun int) int {
	t.Helper()
	for frame := range 10000 {
		a, b := dice.Die(3, seed, frame, from, to, 77), dice.Die(4, seed, frame, from, to, 78)
		if (luck < 0 || a == luck) && (stun < 0 || b == stun) {
			return frame
		}
	}
	t.Fatalf("no frame at which the dice of %d and %d show %d, %d", from, to, luck, stun)
	return 0
}

// TestWorldsOfTheseTests: they are such as may be, so that all promises hold for them.
func TestWorldsOfTheseTests(t *testing.T) {
	for i, w := range []api.World{world(), ill(), laden(), wears(ill(), sword(0), mail(0), mail(2), sword(3))} {
		if !mayBe(w) {
			t.Errorf("world %d of these tests is none", i)
		}
	}
}

// Hurt.

func TestHurtBySome(t *testing.T) {
	for _, row := range taken {
		// At HP 0 no row is there any more; by none not even such a one falls.
		for hp := range world().Ents[row].Max + 1 {
			w := with(laden(), row, func(e *api.Ent) { e.HP = hp })
			for _, n := range []int{math.MinInt, math.MinInt + 1, -1 << 32, -20, -2, -1, 0} {
				checkSame(t, "P801", "Hurt by none", Hurt(w, row, n), w)
			}
			for n := 1; n < hp; n++ {
				want := with(w, row, func(e *api.Ent) { e.HP = hp - n })
				checkSame(t, "P801", "Hurt by some", Hurt(w, row, n), want)
			}
		}
	}
}

func TestHurtByOneAndAllButOne(t *testing.T) {
	for row, hps := range map[int][3]int{seat0: {13, 12, 1}, orc: {8, 7, 1}, mage: {5, 4, 1}, rat: {3, 2, 1}} {
		w := world()
		if e := Hurt(w, row, 1).Ents[row]; w.Ents[row].HP != hps[0] || e.HP != hps[1] {
			t.Errorf("P801: row %d, by 1: HP %d", row, e.HP)
		}
		if e := Hurt(w, row, hps[0]-1).Ents[row]; e.HP != hps[2] || e.Kind != w.Ents[row].Kind {
			t.Errorf("P801: row %d, by HP less one: %+v", row, e)
		}
	}
}

// falls is what becomes of a world whose row has no HP left, as P801 says it.
func falls(w api.World, row int) api.World {
	if e := w.Ents[row]; e.Kind == api.EHero {
		w = swept(w, e.Seat)
	}
	return without(w, row)
}

func TestHurtTillItFalls(t *testing.T) {
	for _, row := range taken {
		for hp := 1; hp <= world().Ents[row].Max; hp++ {
			w := with(laden(), row, func(e *api.Ent) { e.HP = hp })
			for _, n := range []int{hp, hp + 1, hp + 2, 2 * hp, 100, 1 << 31, 1 << 32, 1<<32 + 1, 1 << 62, math.MaxInt - 1, math.MaxInt} {
				checkSame(t, "P801", "Hurt till it falls", Hurt(w, row, n), falls(w, row))
			}
		}
	}
}

// TestFallenRowKeepsGenAlone: of each kind, whatever it had.
func TestFallenRowKeepsGenAlone(t *testing.T) {
	for row, gen := range map[int]int{seat0: 9, orc: 8, mage: 0, seat2: 7, seat3: 255, rat: 5} {
		if e := Hurt(ill(), row, 20).Ents[row]; e != (api.Ent{Gen: gen}) {
			t.Errorf("P801: row %d falls: %+v", row, e)
		}
		if e := Hurt(Hurt(ill(), row, 20), row, 20).Ents[row]; e != (api.Ent{Gen: gen}) {
			t.Errorf("P801: row %d falls twice: %+v", row, e)
		}
	}
}

// TestHurtOfEachRow: a row is told by its number alone, the first and the last too.
func TestHurtOfEachRow(t *testing.T) {
	w := world()
	for row := range w.Ents {
		w.Ents[row] = ents.Stats(1 + row%4)
		w.Ents[row].Gen = row
	}
	for row := range w.Ents {
		checkSame(t, "P801", "by 2", Hurt(w, row, 2), with(w, row, func(e *api.Ent) { e.HP -= 2 }))
		checkSame(t, "P801", "by all", Hurt(w, row, 20), without(w, row))
	}
}

func TestHurtOfFreeRows(t *testing.T) {
	w := laden()
	for row, e := range w.Ents {
		if e.Kind != api.ENone {
			continue
		}
		for _, n := range []int{math.MinInt, -1, 0, 1, 2, 20, math.MaxInt} {
			checkSame(t, "P801", "a free row", Hurt(w, row, n), w)
		}
	}
	// Kind alone makes it free, whatever else it holds.
	w = with(w, gone, func(e *api.Ent) { *e = api.Ent{Gen: 3, Seat: 2, HP: 2, Max: 20, Poison: 1, Stun: 1} })
	for _, n := range []int{1, 2, 3} {
		checkSame(t, "P801", "a free row with numbers", Hurt(w, gone, n), w)
	}
}

func TestHurtOfRowsThatAreNone(t *testing.T) {
	w := laden()
	for _, row := range noRows(api.MaxEnts) {
		for _, n := range []int{math.MinInt, 0, 1, 5, 20, math.MaxInt} {
			checkSame(t, "P801", "a row that is none", Hurt(w, row, n), w)
		}
	}
	// Of fewer rows: those.
	for _, rows := range []int{0, 1, 2, 7} {
		v := twinOf(w)
		v.Ents = v.Ents[:rows]
		for _, row := range noRows(rows) {
			checkSame(t, "P801", "a row behind the last", Hurt(v, row, 5), v)
		}
	}
	// Of more rows than there may be: the first MaxEnts.
	w.Ents = append(w.Ents, w.Ents[orc])
	checkSame(t, "P801", "a row too many", Hurt(w, api.MaxEnts, 5), w)
}

// TestFallenHeroIsSwept: bag and worn of its seat are gone, and nothing else.
func TestFallenHeroIsSwept(t *testing.T) {
	for _, x := range []struct{ row, seat int }{{seat0, 0}, {seat2, 2}, {seat3, 3}} {
		w := laden()
		got := Hurt(w, x.row, 20)
		for i, item := range w.Items {
			mine := item.A == x.seat && (item.Where == api.WBag || item.Where == api.WWorn)
			if mine && got.Items[i] != (api.Item{}) || !mine && got.Items[i] != item {
				t.Errorf("P801: the hero of seat %d falls: %+v becomes %+v", x.seat, item, got.Items[i])
			}
		}
		if got.Gold != w.Gold {
			t.Errorf("P801: the hero of seat %d falls: gold %v", x.seat, got.Gold)
		}
		if !goods.Check(w) || !goods.Check(got) || same(got, without(w, x.row)) {
			t.Errorf("P801: the hero of seat %d falls: nothing was swept, or too much", x.seat)
		}
		// Its worn sword alone, its bag alone.
		for _, item := range []api.Item{sword(x.seat), mail(x.seat), bag(x.seat, api.IPotion, 0), bag(x.seat, api.IMail, 3)} {
			one := world()
			one.Items[11] = item
			checkSame(t, "P801", "a hero with one item falls", Hurt(one, x.row, 20), without(world(), x.row))
			checkSame(t, "P801", "a hero with one item is hurt", Hurt(one, x.row, 1), with(one, x.row, func(e *api.Ent) { e.HP-- }))
		}
	}
}

func TestFallenMonsterSweepsNothing(t *testing.T) {
	w := laden()
	for _, row := range []int{orc, mage, rat} {
		if got := Hurt(w, row, 20); !slices.Equal(got.Items, w.Items) || got.Ents[row].Kind != api.ENone {
			t.Errorf("P801: the monster of row %d falls: %v", row, got.Items)
		}
		// A seat of a monster is none, even if a row says one.
		for seat := range api.Seats {
			v := with(w, row, func(e *api.Ent) { e.Seat = seat })
			if got := Hurt(v, row, 20); !slices.Equal(got.Items, v.Items) {
				t.Errorf("P801: the monster of row %d, seat %d, falls: %v", row, seat, got.Items)
			}
		}
	}
}

// Hit.

// TestHeroHitsARat is the chapter's example.
func TestHeroHitsARat(t *testing.T) {
	for frame := range 100 {
		for hp := 1; hp <= 4; hp++ {
			w := with(ill(), rat, func(e *api.Ent) { e.HP = hp })
			w.Frame = frame
			checkSame(t, "P802", "a hero hits a rat", Hit(w, seat2, rat), without(w, rat))
		}
	}
}

// blow is one, with what the two wear, and how much it hurts without luck.
type blow struct {
	from, to int
	worn     []api.Item
	hurts    int
}

// blows are those of each kind at each kind, with nothing worn, a sword, a mail, both, by the one who hits, by the one who is hit.
func blows() []blow {
	both := func(seat int) []api.Item { return []api.Item{mail(seat), sword(seat)} }
	one := func(item api.Item) []api.Item { return []api.Item{item} }
	return []blow{
		{seat2, orc, nil, 4}, {seat2, orc, one(sword(2)), 7}, {seat2, orc, one(mail(2)), 4}, {seat2, orc, both(2), 7},
		{seat2, mage, nil, 5}, {seat2, mage, one(sword(2)), 8}, {seat2, mage, one(mail(2)), 5}, {seat2, mage, both(2), 8},
		{seat2, rat, nil, 5}, {seat2, rat, one(sword(2)), 8}, {seat2, rat, one(mail(2)), 5}, {seat2, rat, both(2), 8},
		{orc, seat2, nil, 3}, {orc, seat2, one(sword(2)), 3}, {orc, seat2, one(mail(2)), 1}, {orc, seat2, both(2), 1},
		{mage, seat2, nil, 2}, {mage, seat2, one(sword(2)), 2}, {mage, seat2, one(mail(2)), 1}, {mage, seat2, both(2), 1},
		{rat, seat2, nil, 1}, {rat, seat2, one(sword(2)), 1}, {rat, seat2, one(mail(2)), 1}, {rat, seat2, both(2), 1},
		{seat2, seat3, nil, 4}, {seat2, seat3, one(sword(2)), 7}, {seat2, seat3, one(mail(2)), 4}, {seat2, seat3, both(2), 7},
		{seat2, seat3, one(sword(3)), 4}, {seat2, seat3, one(mail(3)), 2}, {seat2, seat3, both(3), 2},
		{seat2, seat3, []api.Item{sword(2), mail(3)}, 5}, {seat2, seat3, append(both(2), both(3)...), 5}, {seat3, seat2, append(both(2), both(3)...), 5},
		// What others wear is nobody's here; seat 0 wears nothing for monsters.
		{seat2, orc, append(both(0), both(3)...), 4}, {orc, seat2, append(both(0), both(1)...), 3}, {rat, mage, both(0), 2}, {orc, mage, both(0), 4}, {mage, orc, both(0), 2}, {rat, orc, both(0), 1},
		{seat0, orc, both(0), 7}, {orc, seat0, both(0), 1}, {seat0, orc, both(2), 4}, {mage, seat0, both(2), 2},
	}
}

// TestHitHurts: of each blow, with each number that the die may add; HP enough, so that all of it is seen.
func TestHitHurts(t *testing.T) {
	for i, b := range blows() {
		for luck := range 3 {
			w := wears(world(), b.worn...)
			w.Ents[b.to].HP, w.Ents[b.to].Max = 90, 90
			w.Frame = frameOf(t, w.Seed, b.from, b.to, luck, -1)
			got := Hit(w, b.from, b.to)
			if e := got.Ents[b.to]; e.HP != 90-b.hurts-luck || e.Max != 90 {
				t.Errorf("P802: blow %d (%+v), luck %d: HP %d, not %d", i, b, luck, e.HP, 90-b.hurts-luck)
			}
			checkElse(t, w, got, b.to)
		}
	}
}

// checkElse holds that a blow changed nothing but HP, Poison and Stun of one row.
func checkElse(t *testing.T, was, now api.World, to int) {
	t.Helper()
	was = with(was, to, func(e *api.Ent) {
		e.HP, e.Poison, e.Stun = now.Ents[to].HP, now.Ents[to].Poison, now.Ents[to].Stun
	})
	checkSame(t, "P802", "all but the one who was hit", now, was)
}

// TestHitTillItFalls: of each blow at each HP, with each luck: it falls just where no HP are left.
func TestHitTillItFalls(t *testing.T) {
	for i, b := range blows() {
		for luck := range 3 {
			for hp := 1; hp <= world().Ents[b.to].Max; hp++ {
				w := with(wears(ill(), b.worn...), b.to, func(e *api.Ent) { e.HP = hp })
				w.Frame = frameOf(t, w.Seed, b.from, b.to, luck, -1)
				got, left := Hit(w, b.from, b.to), hp-b.hurts-luck
				if left <= 0 {
					checkSame(t, "P802", "a blow till it falls", got, falls(w, b.to))
				} else if got.Ents[b.to].HP != left || got.Ents[b.to].Kind != w.Ents[b.to].Kind || !slices.Equal(got.Items, w.Items) {
					t.Errorf("P802: blow %d, luck %d, HP %d: %+v", i, luck, hp, got.Ents[b.to])
				}
			}
		}
	}
}

// TestHitOfAnyAtkAndDef: the greater of 1 and Atk less Def, of the rows' own numbers.
func TestHitOfAnyAtkAndDef(t *testing.T) {
	for _, x := range []struct{ atk, def, hurts int }{
		{0, 0, 1}, {0, 5, 1}, {1, 0, 1}, {1, 1, 1}, {2, 0, 2}, {2, 1, 1}, {3, 1, 2}, {9, 4, 5}, {4, 9, 1}, {7, 7, 1}, {8, 7, 1}, {9, 7, 2}, {50, 1, 49}, {1, 50, 1},
	} {
		for luck := range 3 {
			for _, pair := range [][2]int{{orc, rat}, {rat, mage}, {seat2, orc}, {mage, seat3}, {seat0, seat3}} {
				w := world()
				w.Ents[pair[0]].Atk, w.Ents[pair[0]].Def = x.atk, 33
				w.Ents[pair[1]].Atk, w.Ents[pair[1]].Def = 44, x.def
				w.Ents[pair[1]].HP, w.Ents[pair[1]].Max = 90, 90
				w.Frame = frameOf(t, w.Seed, pair[0], pair[1], luck, -1)
				if hp := Hit(w, pair[0], pair[1]).Ents[pair[1]].HP; hp != 90-x.hurts-luck {
					t.Errorf("P802: %d hits %d, Atk %d, Def %d, luck %d: HP %d", pair[0], pair[1], x.atk, x.def, luck, hp)
				}
			}
		}
	}
}

// TestHitLuckHangsOnAll: on seed, frame, and both rows in their order.
func TestHitLuckHangsOnAll(t *testing.T) {
	for _, seed := range []int64{0, 1, -1, 9, math.MaxInt64, math.MinInt64} {
		for _, frame := range []int{0, 1, 2, 77, 78, 1 << 20, 1<<30 - 1} {
			w := world()
			w.Seed, w.Frame = seed, frame
			for i := range w.Ents {
				w.Ents[i] = ents.Stats(api.EHero)
				w.Ents[i].HP, w.Ents[i].Max, w.Ents[i].Seat = 90, 90, i%4
			}
			for from := range w.Ents {
				for to := range w.Ents {
					want := 86 - dice.Die(3, seed, frame, from, to, 77)
					if hp := Hit(w, from, to).Ents[to].HP; hp != want {
						t.Fatalf("P802: seed %d, frame %d, %d hits %d: HP %d, not %d", seed, frame, from, to, hp, want)
					}
				}
			}
		}
	}
}

// TestHitByAMage: Poison 3 more, 9 at most, whatever the dice; Stun as it was.
func TestHitByAMage(t *testing.T) {
	for was, now := range []int{3, 4, 5, 6, 7, 8, 9, 9, 9, 9} {
		for _, to := range []int{seat2, orc, seat0} {
			for stun := range 10 {
				w := with(world(), to, func(e *api.Ent) { e.Poison, e.Stun = was, stun })
				for die := range 4 {
					w.Frame = frameOf(t, w.Seed, mage, to, -1, die)
					got := Hit(w, mage, to)
					if e := got.Ents[to]; e.Poison != now || e.Stun != stun {
						t.Errorf("P802: a mage hits row %d, Poison %d, Stun %d, die %d: %d, %d", to, was, stun, die, e.Poison, e.Stun)
					}
					checkElse(t, w, got, to)
				}
			}
		}
	}
}

// TestHitByAnOrc: Stun 2 more, 9 at most, if the die says so; Poison as it was.
func TestHitByAnOrc(t *testing.T) {
	for was, now := range []int{2, 3, 4, 5, 6, 7, 8, 9, 9, 9} {
		for _, to := range []int{seat2, mage, seat0} {
			for poison := range 10 {
				w := with(world(), to, func(e *api.Ent) { e.Poison, e.Stun, e.HP = poison, was, e.Max })
				for die := range 4 {
					w.Frame = frameOf(t, w.Seed, orc, to, 0, die)
					want := was
					if die == 0 {
						want = now
					}
					got := Hit(w, orc, to)
					if e := got.Ents[to]; e.Poison != poison || e.Stun != want {
						t.Errorf("P802: an orc hits row %d, Poison %d, Stun %d, die %d: %d, %d", to, poison, was, die, e.Poison, e.Stun)
					}
					checkElse(t, w, got, to)
				}
			}
		}
	}
}

// TestHitStunsByItsDie: of the seed, the frame and both rows in their order.
func TestHitStunsByItsDie(t *testing.T) {
	stuns := 0
	for frame := range 300 {
		w := world()
		w.Seed, w.Frame = 9, frame
		for _, rows := range [][2]int{{0, 31}, {31, 0}, {4, 5}, {5, 4}} {
			w.Ents[rows[0]], w.Ents[rows[1]] = ents.Stats(api.EOrc), ents.Stats(api.EHero)
			want := 0
			if dice.Die(4, 9, frame, rows[0], rows[1], 78) == 0 {
				want = 2
				stuns++
			}
			if stun := Hit(w, rows[0], rows[1]).Ents[rows[1]].Stun; stun != want {
				t.Errorf("P802: frame %d, orc %d hits %d: Stun %d, not %d", frame, rows[0], rows[1], stun, want)
			}
		}
	}
	if stuns < 200 || stuns > 400 {
		t.Errorf("P802: %d of 1200 blows stun", stuns)
	}
}

// TestHitByRatsAndHeroes: they leave neither, whatever the dice.
func TestHitByRatsAndHeroes(t *testing.T) {
	for _, from := range []int{rat, seat0, seat3} {
		for _, to := range []int{seat2, orc} {
			for n := range 10 {
				for die := range 4 {
					w := with(world(), to, func(e *api.Ent) { e.Poison, e.Stun, e.HP = n, 9-n, e.Max })
					w.Frame = frameOf(t, w.Seed, from, to, -1, die)
					got := Hit(w, from, to)
					if e := got.Ents[to]; e.Poison != n || e.Stun != 9-n || e.HP >= e.Max {
						t.Errorf("P802: %d hits %d, die %d: %+v", from, to, die, e)
					}
				}
			}
		}
	}
}

// TestFallenGetNeither: one that falls by a blow has nothing left of it.
func TestFallenGetNeither(t *testing.T) {
	for _, from := range []int{mage, orc} {
		for _, to := range []int{seat0, seat2, seat3, orc, mage, rat} {
			for die := range 4 {
				w := with(laden(), to, func(e *api.Ent) { e.HP, e.Poison, e.Stun = 1, 2, 3 })
				w.Frame = frameOf(t, w.Seed, from, to, -1, die)
				checkSame(t, "P802", "a blow by which one falls", Hit(w, from, to), falls(w, to))
			}
		}
	}
}

// TestHeroFallsByAHero: the one who is hit is swept, not the one who hits.
func TestHeroFallsByAHero(t *testing.T) {
	w := with(laden(), seat3, func(e *api.Ent) { e.HP = 1 })
	want := without(swept(w, 3), seat3)
	checkSame(t, "P802", "a hero falls by a hero", Hit(w, seat2, seat3), want)
	if atk, def := goods.Bonus(want, 2); atk != 3 || def != 2 {
		t.Errorf("P802: seat 2 wears %d, %d", atk, def)
	}
}

// TestHitOfItself: from and to may be one row.
func TestHitOfItself(t *testing.T) {
	for _, row := range taken {
		for die := range 4 {
			for luck := range 3 {
				w := with(laden(), row, func(e *api.Ent) { e.HP, e.Max, e.Poison, e.Stun = 90, 90, 1, 4 })
				w.Frame = frameOf(t, w.Seed, row, row, luck, die)
				// Atk less Def; heroes with a sword and a mail.
				hurts := map[int]int{api.EHero: 8 - 3, api.EOrc: 4 - 1, api.EMage: 3, api.ERat: 2}[w.Ents[row].Kind]
				want := with(w, row, func(e *api.Ent) {
					e.HP -= hurts + luck
					if e.Kind == api.EMage {
						e.Poison = 4
					}
					if e.Kind == api.EOrc && die == 0 {
						e.Stun = 6
					}
				})
				checkSame(t, "P802", "one hits itself", Hit(w, row, row), want)
				w.Ents[row].HP = 1
				checkSame(t, "P802", "one hits itself till it falls", Hit(w, row, row), falls(w, row))
			}
		}
	}
}

func TestHitOfFreeRowsAndNone(t *testing.T) {
	w := laden()
	odd := append([]int{0, gone, 5, 8, 30}, noRows(api.MaxEnts)...)
	for _, row := range odd {
		for _, other := range taken {
			checkSame(t, "P802", "from a row that is free or none", Hit(w, row, other), w)
			checkSame(t, "P802", "to a row that is free or none", Hit(w, other, row), w)
		}
		for _, other := range odd {
			checkSame(t, "P802", "both rows free or none", Hit(w, row, other), w)
		}
	}
	// Kind alone makes it free, whatever else it holds.
	w = with(w, gone, func(e *api.Ent) {
		*e = api.Ent{Gen: 3, Seat: 2, HP: 2, Max: 20, Atk: 9, Def: 9, Poison: 1, Stun: 1}
	})
	checkSame(t, "P802", "from a free row with numbers", Hit(w, gone, orc), w)
	checkSame(t, "P802", "to a free row with numbers", Hit(w, orc, gone), w)
	// Of more rows than there may be: the first MaxEnts.
	w.Ents = append(w.Ents, w.Ents[orc])
	checkSame(t, "P802", "from a row too many", Hit(w, api.MaxEnts, orc), w)
	checkSame(t, "P802", "to a row too many", Hit(w, orc, api.MaxEnts), w)
}

// Ail.

func TestAilOfNobody(t *testing.T) {
	w := laden()
	for i, e := range w.Ents {
		w.Ents[i] = api.Ent{Gen: e.Gen}
	}
	checkSame(t, "P803", "no row taken", Ail(w), w)
	w.Ents[gone].Poison, w.Ents[gone].Stun, w.Ents[0].HP = 3, 2, 1
	checkSame(t, "P803", "no row taken, numbers in free ones", Ail(w), w)
	checkSame(t, "P803", "nobody is ill", Ail(world()), world())
}

// TestAilOfEach: Stun and Poison at each number, alone and both at once.
func TestAilOfEach(t *testing.T) {
	for _, row := range taken {
		for stun := range 10 {
			for poison := range 10 {
				for hp := 1; hp <= world().Ents[row].Max; hp++ {
					w := with(world(), row, func(e *api.Ent) { e.HP, e.Poison, e.Stun = hp, poison, stun })
					want := with(w, row, func(e *api.Ent) {
						e.Stun = []int{0, 0, 1, 2, 3, 4, 5, 6, 7, 8}[stun]
						if poison > 0 {
							e.Poison, e.HP = poison-1, hp-1
						}
					})
					if poison > 0 && hp == 1 {
						want = falls(w, row)
					}
					checkSame(t, "P803", "one is ill", Ail(w), want)
				}
			}
		}
	}
}

// TestAilSweepsAHeroThatFalls: its own items, and nobody else's; a monster that falls has none.
func TestAilSweepsAHeroThatFalls(t *testing.T) {
	for _, row := range taken {
		w := laden()
		for _, other := range taken {
			w.Ents[other].Poison, w.Ents[other].Stun = 0, 0
		}
		w.Ents[row].HP, w.Ents[row].Poison = 1, 4
		want := falls(w, row)
		checkSame(t, "P803", "one falls by its poison", Ail(w), want)
		if hero := w.Ents[row].Kind == api.EHero; hero == slices.Equal(want.Items, w.Items) {
			t.Errorf("P803: row %d falls: %v", row, want.Items)
		}
		// Not yet: with one HP more, or no Poison, it keeps all.
		for _, x := range [][2]int{{2, 4}, {1, 0}} {
			w.Ents[row].HP, w.Ents[row].Poison = x[0], x[1]
			if got := Ail(w); !slices.Equal(got.Items, w.Items) || got.Ents[row].HP != 1 {
				t.Errorf("P803: row %d, HP %d, Poison %d: %+v", row, x[0], x[1], got.Ents[row])
			}
		}
	}
}

// TestAilOfAllRows: each row from the first to the last, those behind one that falls too.
func TestAilOfAllRows(t *testing.T) {
	r := rand.New(rand.NewPCG(8, 3))
	for range 2000 {
		w := laden()
		seats := r.Perm(api.Seats)
		for row := range w.Ents {
			e := ents.Stats(2 + r.IntN(3))
			if r.IntN(5) == 0 && len(seats) > 0 {
				e = ents.Stats(api.EHero)
				e.Seat, seats = seats[0], seats[1:]
			}
			e.Gen, e.HP, e.Poison, e.Stun = r.IntN(256), 1+r.IntN(3), r.IntN(3), r.IntN(3)
			if w.Ents[row] = e; r.IntN(4) == 0 {
				w.Ents[row] = api.Ent{Gen: e.Gen}
			}
		}
		want := twinOf(w)
		for row := range want.Ents {
			want = ailed(want, row)
		}
		checkSame(t, "P803", "all rows", Ail(w), want)
	}
	// Of more rows than there may be: the first MaxEnts.
	w := ill()
	want := Ail(w)
	w.Ents = append(w.Ents, w.Ents[seat3])
	want.Ents = append(want.Ents, w.Ents[seat3])
	checkSame(t, "P803", "a row too many", Ail(w), want)
}

// TestAilTillItIsOver: frame by frame, till nobody is ill any more.
func TestAilTillItIsOver(t *testing.T) {
	w := world()
	w.Ents[seat3].Poison, w.Ents[seat3].Stun = 9, 4
	w.Ents[mage].Poison, w.Ents[orc].Stun = 9, 9
	for frame := 1; frame <= 12; frame++ {
		w = Ail(w)
		hero, fire, brute := w.Ents[seat3], w.Ents[mage], w.Ents[orc]
		if hero.HP != 20-min(frame, 9) || hero.Poison != max(9-frame, 0) || hero.Stun != max(4-frame, 0) {
			t.Errorf("P803: frame %d: the hero: %+v", frame, hero)
		}
		if frame < 5 && (fire.HP != 5-frame || fire.Poison != 9-frame) || frame >= 5 && fire != (api.Ent{}) {
			t.Errorf("P803: frame %d: the mage: %+v", frame, fire)
		}
		if brute.HP != 8 || brute.Stun != max(9-frame, 0) {
			t.Errorf("P803: frame %d: the orc: %+v", frame, brute)
		}
	}
}

// What the words say, gone through in the plainest way.

// hurtBy is P801.
func hurtBy(w api.World, row, n int) api.World {
	if row < 0 || row > 31 || w.Ents[row].Kind == 0 || n < 1 {
		return twinOf(w)
	}
	if w.Ents[row].HP-n <= 0 {
		return falls(w, row)
	}
	return with(w, row, func(e *api.Ent) { e.HP -= n })
}

// ailed is P803 of one row.
func ailed(w api.World, row int) api.World {
	was := w.Ents[row]
	if was.Kind == 0 {
		return w
	}
	w = with(w, row, func(e *api.Ent) { e.Stun, e.Poison = max(e.Stun-1, 0), max(e.Poison-1, 0) })
	if was.Poison > 0 {
		w = hurtBy(w, row, 1)
	}
	return w
}

// hitBy is P802.
func hitBy(w api.World, from, to int) api.World {
	if from < 0 || from > 31 || to < 0 || to > 31 || w.Ents[from].Kind == 0 || w.Ents[to].Kind == 0 {
		return twinOf(w)
	}
	a, b := w.Ents[from], w.Ents[to]
	atk, def := a.Atk, b.Def
	for _, item := range w.Items {
		if item == sword(a.Seat) && a.Kind == api.EHero {
			atk += 3
		}
		if item == mail(b.Seat) && b.Kind == api.EHero {
			def += 2
		}
	}
	n := atk - def
	if n < 1 {
		n = 1
	}
	w = hurtBy(w, to, n+dice.Die(3, w.Seed, w.Frame, from, to, 77))
	if w.Ents[to].Kind == 0 {
		return w
	}
	return with(w, to, func(e *api.Ent) {
		if a.Kind == api.EMage {
			e.Poison = min(e.Poison+3, 9)
		}
		if a.Kind == api.EOrc && dice.Die(4, w.Seed, w.Frame, from, to, 78) == 0 {
			e.Stun = min(e.Stun+2, 9)
		}
	})
}

// mayBe tells whether a world's entities and items are such as may be: HP 1 to Max (at 0 a row is free), a row that is free has nothing but its Gen.
func mayBe(w api.World) bool {
	seats := map[int]int{}
	for _, e := range w.Ents {
		fresh := ents.Stats(e.Kind)
		switch {
		case e.Gen < 0 || e.Gen > 255:
			return false
		case e.Kind == api.ENone:
			if e != (api.Ent{Gen: e.Gen}) {
				return false
			}
			continue
		case e.HP < 1 || e.HP > e.Max || e.Max != fresh.Max || e.Atk != fresh.Atk || e.Def != fresh.Def:
			return false
		case e.Poison < 0 || e.Poison > 9 || e.Stun < 0 || e.Stun > 9:
			return false
		case e.Kind == api.EHero:
			if seats[e.Seat]++; seats[e.Seat] > 1 || e.Seat < 0 || e.Seat > 3 {
				return false
			}
		case e.Seat != 0:
			return false
		}
	}
	return len(w.Ents) == api.MaxEnts && goods.Check(w)
}

// floorOf is a floor of gen with its monsters and items, and a hero for each seat.
func floorOf(t *testing.T, r *rand.Rand) api.World {
	t.Helper()
	floor := 1 + r.IntN(3)
	level, err := gen.Make(int64(r.Uint64()), floor)
	if err != api.OK {
		t.Fatal(err)
	}
	w := api.World{Seed: int64(r.Uint64()), Floor: floor, Cells: level.Cells, Ents: make([]api.Ent, api.MaxEnts), Gold: [api.Seats]int{5, 0, 999, 7}}
	w.Items = goods.Lay(make([]api.Item, api.MaxItems), level.Items...)
	for _, e := range level.Ents {
		w.Ents = spawned(w.Ents, e)
	}
	return replaced(w, r)
}

// spawned is a list with one more, if there is room.
func spawned(l []api.Ent, e api.Ent) []api.Ent {
	if more, _, err := ents.Spawn(l, e); err == api.OK {
		return more
	}
	return l
}

// replaced is a world in which those that fell came back, and some heroes have more than they had.
func replaced(w api.World, r *rand.Rand) api.World {
	for seat := range api.Seats {
		if ents.Hero(w.Ents, seat) < 0 {
			e := ents.Stats(api.EHero)
			e.Seat = seat
			w.Ents = spawned(w.Ents, e)
		}
		for _, item := range []api.Item{sword(seat), mail(seat), bag(seat, api.IPotion, 1)} {
			v := w
			if v.Items = goods.Lay(w.Items, item); r.IntN(3) == 0 && goods.Check(v) {
				w = v
			}
		}
		if r.IntN(3) == 0 {
			w = goods.Do(w, seat, api.Use)
		}
	}
	for range 3 {
		w.Ents = spawned(w.Ents, ents.Stats(2+r.IntN(3)))
	}
	return w
}

// anyRow is mostly one of those that are taken.
func anyRow(w api.World, r *rand.Rand) int {
	for range 4 {
		if row := r.IntN(api.MaxEnts); w.Ents[row].Kind != api.ENone {
			return row
		}
	}
	return r.IntN(api.MaxEnts+4) - 2
}

// step is a call by chance, with what the words say of it.
func step(w api.World, r *rand.Rand) (string, api.World, api.World) {
	a, b, n := anyRow(w, r), anyRow(w, r), r.IntN(7)-1
	switch r.IntN(5) {
	case 0:
		return "Hurt", Hurt(w, a, n), hurtBy(w, a, n)
	case 1:
		want := twinOf(w)
		for row := range want.Ents {
			want = ailed(want, row)
		}
		return "Ail", Ail(w), want
	}
	return "Hit", Hit(w, a, b), hitBy(w, a, b)
}

// TestHitPointsStay is P804, and P801 to P803 of worlds that come of each other.
func TestHitPointsStay(t *testing.T) {
	r := rand.New(rand.NewPCG(8, 4))
	counts := map[string]int{}
	for range 100 {
		w := floorOf(t, r)
		for range 300 {
			w.Frame++
			was := twinOf(w)
			name, next, want := step(w, r)
			if checkSame(t, "P801 to P803", name, next, want); t.Failed() {
				return
			}
			if !mayBe(next) {
				l, items := told(next)
				t.Fatalf("P804: %s: %+v, %v", name, l, items)
			}
			if !same(w, was) {
				t.Fatalf("P2: %s changed the world that was handed in", name)
			}
			tally(counts, name, w, next)
			if w = next; r.IntN(12) == 0 {
				w = replaced(w, r)
			}
		}
	}
	for _, what := range []string{"Hurt: hero falls", "Hurt: monster falls", "Hit: hero falls", "Hit: monster falls", "Ail: hero falls", "Ail: monster falls", "Hurt: hurt", "Hit: hurt", "Ail: hurt", "Hit: poisoned", "Hit: stunned", "Hit: swept", "Hurt: swept", "Ail: swept"} {
		if counts[what] < 30 {
			t.Errorf("P804: %s: %d times only", what, counts[what])
		}
	}
}

// tally counts what a call did.
func tally(counts map[string]int, name string, was, now api.World) {
	for row, e := range now.Ents {
		old := was.Ents[row]
		switch {
		case old.Kind == api.EHero && e.Kind == api.ENone:
			counts[name+": hero falls"]++
		case old.Kind != e.Kind:
			counts[name+": monster falls"]++
		case old.HP > e.HP:
			counts[name+": hurt"]++
		}
		if e.Poison > old.Poison {
			counts[name+": poisoned"]++
		}
		if e.Stun > old.Stun {
			counts[name+": stunned"]++
		}
	}
	if !slices.Equal(was.Items, now.Items) {
		counts[name+": swept"]++
	}
}

// TestFallenRowsAreTakenAgain: with another id, as for all rows that are freed.
func TestFallenRowsAreTakenAgain(t *testing.T) {
	for _, row := range taken {
		w := world()
		for i := range w.Ents {
			if w.Ents[i].Kind == api.ENone {
				w.Ents[i] = ents.Stats(api.ERat)
			}
		}
		id := ents.Id(w.Ents, row)
		w = Hurt(w, row, 20)
		l, at, err := ents.Spawn(w.Ents, ents.Stats(api.EOrc))
		if err != api.OK || at != row || ents.Of(l, id) != -1 || l[row].HP != 9 {
			t.Errorf("P804: row %d, spawned again: %d, %v, %+v", row, at, err, l[row])
		}
	}
}

// What holds everywhere.

// spare is a world whose lists have spare room, with numbers in it.
func spare(w api.World) (api.World, api.World) {
	whole := w
	whole.Cells = append(slices.Clone(w.Cells), 9, 8, 7)
	whole.Ents = append(slices.Clone(w.Ents), api.Ent{Kind: 9, HP: 8, Poison: 3, Stun: 2}, api.Ent{Gen: 7})
	whole.Items = append(slices.Clone(w.Items), sword(0), mail(2), bag(3, api.IPotion, 1))
	w.Cells, w.Ents, w.Items = whole.Cells[:len(w.Cells)], whole.Ents[:len(w.Ents)], whole.Items[:len(w.Items)]
	return w, whole
}

// room is a world with its lists' spare room.
func room(w api.World) api.World {
	w.Cells, w.Ents, w.Items = w.Cells[:cap(w.Cells)], w.Ents[:cap(w.Ents)], w.Items[:cap(w.Items)]
	return w
}

// spoil changes all that a world's lists hold.
func spoil(w api.World) {
	w = room(w)
	for i := range w.Cells {
		w.Cells[i] ^= 0x55
	}
	for i := range w.Ents {
		w.Ents[i].HP -= 1000
	}
	for i := range w.Items {
		w.Items[i].A -= 1000
	}
}

// checkApart holds that no two of some worlds share memory.
func checkApart(t *testing.T, what string, all ...api.World) {
	t.Helper()
	for k := range all {
		var were []api.World
		for _, v := range all {
			were = append(were, twinOf(room(v)))
		}
		spoil(all[k])
		for j, v := range all {
			if j != k && !same(room(v), were[j]) {
				t.Fatalf("P2: %s: %d and %d share memory", what, k, j)
			}
		}
	}
}

// TestWorldStays is P2: what is handed in stays, its spare room too, and an answer is apart from it and from others.
func TestWorldStays(t *testing.T) {
	few := laden()
	few.Items, few.Ents, few.Cells = few.Items[:6], few.Ents[:7], few.Cells[:30]
	weak := laden()
	for _, row := range taken {
		weak.Ents[row].HP, weak.Ents[row].Poison = 1, 1
	}
	for _, start := range []api.World{laden(), weak, world(), few, {}} {
		for _, row := range []int{-1, 0, seat0, orc, mage, seat2, rat, 32} {
			for _, n := range []int{-1, 0, 1, 5, 20} {
				w, whole := spare(start)
				was := twinOf(whole)
				answers := []api.World{Hurt(w, row, n), Hit(w, row, seat2), Hit(w, orc, row), Hit(w, row, row), Ail(w), Ail(w), Hurt(w, row, n)}
				checkSame(t, "P2", "the world that was handed in", whole, was)
				checkApart(t, "answers and the world", append(answers, whole)...)
			}
		}
	}
}

// TestNoListIsAnEmptyOne is P2 of no list.
func TestNoListIsAnEmptyOne(t *testing.T) {
	none, empty := world(), world()
	none.Cells, none.Ents, none.Items = nil, nil, nil
	empty.Cells, empty.Ents, empty.Items = []byte{}, []api.Ent{}, []api.Item{}
	for _, w := range []api.World{none, empty} {
		for _, row := range []int{-1, 0, 1, 31} {
			checkSame(t, "P2", "Hurt of no lists", Hurt(w, row, 3), empty)
			checkSame(t, "P2", "Hit of no lists", Hit(w, row, 0), empty)
		}
		checkSame(t, "P2", "Ail of no lists", Ail(w), empty)
	}
	// Heroes among no cells and no items fight all the same.
	w := ill()
	w.Cells, w.Items = nil, nil
	checkSame(t, "P801", "Hurt with no items", Hurt(w, seat2, 20), without(w, seat2))
	checkSame(t, "P802", "Hit with no items", Hit(w, orc, seat3), hitBy(w, orc, seat3))
}

// TestAnyWorld is P1 and P2 of worlds that may not be: every call ends and leaves what it was given.
func TestAnyWorld(t *testing.T) {
	r := rand.New(rand.NewPCG(8, 9))
	num := func() int {
		return []int{r.IntN(6) - 1, r.IntN(6) - 1, r.IntN(6) - 1, r.IntN(33), math.MaxInt - r.IntN(7), math.MinInt + r.IntN(7), int(r.Uint64())}[r.IntN(7)]
	}
	for range 20000 {
		w := api.World{Seed: int64(r.Uint64()), Frame: num(), Floor: num(), State: num(), Cells: make([]byte, r.IntN(400))}
		for range r.IntN(40) {
			w.Ents = append(w.Ents, api.Ent{Kind: num(), Gen: num(), Seat: num(), X: num(), Y: num(), HP: num(), Max: num(), Atk: num(), Def: num(), Poison: num(), Stun: num()})
		}
		for range r.IntN(50) {
			w.Items = append(w.Items, api.Item{Kind: num(), Where: num(), A: num(), B: num()})
		}
		was := twinOf(w)
		for _, next := range []api.World{Hurt(w, num(), num()), Hit(w, num(), num()), Ail(w)} {
			if len(next.Items) != len(w.Items) || len(next.Ents) != len(w.Ents) || !slices.Equal(next.Cells, w.Cells) {
				t.Fatal("P801 to P803: other lists")
			}
			Ail(next)
		}
		if !same(w, was) {
			t.Fatal("P2: a world that may not be was changed")
		}
	}
}

// TestSameAlways is P3, asked by many at once.
func TestSameAlways(t *testing.T) {
	w := laden()
	hit, hurt, ail := Hit(w, orc, seat2), Hurt(w, seat3, 20), Ail(w)
	var all sync.WaitGroup
	for range 8 {
		all.Go(func() {
			for range 100 {
				if !same(Hit(w, orc, seat2), hit) || !same(Hurt(w, seat3, 20), hurt) || !same(Ail(w), ail) {
					t.Error("P3: another answer")
				}
			}
		})
	}
	all.Wait()
}
