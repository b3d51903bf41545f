package goods

import (
	"math"
	"math/rand/v2"
	"slices"
	"sync"
	"testing"

	"adit/api"
	"adit/ents"
	"adit/gen"
)

// The worlds of these tests: the hero of seat 2 stands at (3, 1), that of seat 0 at (1, 2), that of seat 3 in the shop at (5, 1); seat 1 has none.
const (
	me   = 2
	row  = 6 // of its hero
	hx   = 3
	hy   = 1
	shop = 1*api.Wide + 5
)

// world is one with some items from row 3 on; all that an item call should leave alone has a number of its own.
func world(items ...api.Item) api.World {
	w := api.World{Seed: -77, Frame: 1234, Floor: 2, State: api.Running, Gold: [api.Seats]int{100, 200, 300, 400}}
	w.Cells = make([]byte, api.Cells)
	for y := 1; y < 4; y++ {
		for x := 1; x < 8; x++ {
			w.Cells[y*api.Wide+x] = api.CFloor
		}
	}
	w.Cells[25], w.Cells[26], w.Cells[shop], w.Cells[31] = api.CUp, api.CDoor, api.CShop, api.CDown
	w.Ents = make([]api.Ent, api.MaxEnts)
	for i := range w.Ents {
		w.Ents[i].Gen = i
	}
	w.Ents[1] = api.Ent{Kind: api.EHero, Gen: 9, X: 1, Y: 2, HP: 3, Max: 20, Atk: 5, Def: 1, Poison: 8, Stun: 1}
	w.Ents[2] = api.Ent{Kind: api.EOrc, Gen: 8, Seat: me, X: 7, Y: 3, HP: 2, Max: 9, Atk: 4, Def: 1, Poison: 7, Stun: 2}
	w.Ents[row] = api.Ent{Kind: api.EHero, Gen: 7, Seat: me, X: hx, Y: hy, HP: 10, Max: 20, Atk: 5, Def: 1, Poison: 6, Stun: 3}
	w.Ents[7] = api.Ent{Kind: api.EHero, Gen: 6, Seat: 3, X: 5, Y: 1, HP: 4, Max: 20, Atk: 5, Def: 1, Poison: 5, Stun: 4}
	w.Items = make([]api.Item, api.MaxItems)
	copy(w.Items[3:], items)
	return w
}

// Items in places: of seat me, and of any.
func bag(kind, slot int) api.Item { return bagOf(me, kind, slot) }
func bagOf(seat, kind, slot int) api.Item {
	return api.Item{Kind: kind, Where: api.WBag, A: seat, B: slot}
}
func worn(kind int) api.Item        { return wornOf(me, kind) }
func cell(kind, x, y int) api.Item  { return api.Item{Kind: kind, Where: api.WCell, A: x, B: y} }
func here(kind int) api.Item        { return cell(kind, hx, hy) }
func shelf(kind, slot int) api.Item { return api.Item{Kind: kind, Where: api.WShop, A: slot} }

func wornOf(seat, kind int) api.Item {
	b := map[int]int{api.ISword: 0, api.IMail: 1}[kind]
	return api.Item{Kind: kind, Where: api.WWorn, A: seat, B: b}
}

// with is a list of items and some more.
func with(l []api.Item, more ...api.Item) []api.Item { return append(slices.Clone(l), more...) }

func full() []api.Item {
	return []api.Item{bag(api.IMail, 2), bag(api.IPotion, 0), bag(api.ISword, 3), bag(api.IPotion, 1)}
}

// others have what no call for seat me touches; some of it has the numbers of the hero's place.
func others() []api.Item {
	return []api.Item{
		bagOf(0, api.IPotion, 0), bagOf(0, api.ISword, 1), bagOf(1, api.IMail, 2), bagOf(3, api.IPotion, 1), bagOf(3, api.ISword, 3),
		wornOf(0, api.ISword), wornOf(1, api.IMail), wornOf(3, api.ISword), wornOf(3, api.IMail),
		cell(api.IGold, hy, hx), cell(api.IPotion, hx+1, hy), cell(api.ISword, hx, hy+1), cell(api.IMail, hx-1, hy), cell(api.IGold, 1, 2),
	}
}

// same tells whether all is the same in two worlds.
func same(a, b api.World) bool {
	return a.Seed == b.Seed && a.Frame == b.Frame && a.Floor == b.Floor && a.State == b.State && a.Gold == b.Gold &&
		slices.Equal(a.Cells, b.Cells) && slices.Equal(a.Ents, b.Ents) && slices.Equal(a.Items, b.Items)
}

func twinOf(w api.World) api.World {
	w.Cells, w.Ents, w.Items = slices.Clone(w.Cells), slices.Clone(w.Ents), slices.Clone(w.Items)
	return w
}

// deed is what one Do makes of a world: of its items (from row 3 on), its gold, its hero.
type deed struct {
	name       string
	was, now   []api.Item
	gold, left int
	hp, then   int // HP ahead of it and behind it; Poison is 0 then, if cured
	cured      bool
}

// checkDeed holds a deed against P701, alone and among the items of others, ahead of them and behind.
func checkDeed(t *testing.T, d deed, input, x int) {
	t.Helper()
	for i, l := range [][]api.Item{nil, others()} {
		for _, ahead := range []bool{false, true} {
			was, now := world(with(d.was, l...)...), world(with(d.now, l...)...)
			if ahead {
				was, now = world(with(l, d.was...)...), world(with(l, d.now...)...)
			}
			was.Gold[me], now.Gold[me] = d.gold, d.left
			was.Ents[row].HP, now.Ents[row].HP = d.hp, d.then
			was.Ents[row].X, now.Ents[row].X = x, x
			if d.cured {
				now.Ents[row].Poison = 0
			}
			got := Do(was, me, input)
			if !same(got, now) {
				t.Errorf("P701: %s (%d, %t): %v, gold %d, %+v; not %v, gold %d, %+v", d.name, i, ahead,
					got.Items, got.Gold, got.Ents[row], now.Items, now.Gold, now.Ents[row])
			}
			if Check(was) && !Check(got) {
				t.Errorf("P704: %s (%d, %t): Check says no behind it", d.name, i, ahead)
			}
		}
	}
}

// still is a deed that does nothing.
func still(name string, l ...api.Item) deed {
	return deed{name, l, l, 300, 300, 10, 10, false}
}

func moves(name string, was, now []api.Item) deed {
	return deed{name, was, now, 300, 300, 10, 10, false}
}

// Pick.

func TestPick(t *testing.T) {
	for _, d := range []deed{
		still("nothing there"),
		still("all elsewhere", shelf(api.IPotion, 0), bag(api.ISword, 2), worn(api.IMail), cell(api.IPotion, 7, 3)),
		moves("a potion", []api.Item{here(api.IPotion)}, []api.Item{bag(api.IPotion, 0)}),
		moves("a sword", []api.Item{here(api.ISword)}, []api.Item{bag(api.ISword, 0)}),
		moves("a mail", []api.Item{here(api.IMail)}, []api.Item{bag(api.IMail, 0)}),
		moves("the lowest of several", []api.Item{here(api.IMail), here(api.IPotion), here(api.ISword)}, []api.Item{bag(api.IMail, 0), here(api.IPotion), here(api.ISword)}),
		moves("the lowest of several, gold behind", []api.Item{here(api.IPotion), here(api.IGold)}, []api.Item{bag(api.IPotion, 0), here(api.IGold)}),
		moves("slot 1", []api.Item{bag(api.IPotion, 0), here(api.ISword)}, []api.Item{bag(api.IPotion, 0), bag(api.ISword, 1)}),
		moves("slot 1 of two", []api.Item{bag(api.IMail, 2), here(api.ISword), bag(api.IPotion, 0)}, []api.Item{bag(api.IMail, 2), bag(api.ISword, 1), bag(api.IPotion, 0)}),
		moves("slot 0", []api.Item{bag(api.IMail, 1), bag(api.IMail, 2), bag(api.IMail, 3), here(api.ISword)}, []api.Item{bag(api.IMail, 1), bag(api.IMail, 2), bag(api.IMail, 3), bag(api.ISword, 0)}),
		moves("slot 2", []api.Item{bag(api.IMail, 1), bag(api.IMail, 0), bag(api.IMail, 3), here(api.ISword)}, []api.Item{bag(api.IMail, 1), bag(api.IMail, 0), bag(api.IMail, 3), bag(api.ISword, 2)}),
		moves("slot 3", []api.Item{bag(api.IMail, 1), bag(api.IMail, 0), bag(api.IMail, 2), here(api.ISword)}, []api.Item{bag(api.IMail, 1), bag(api.IMail, 0), bag(api.IMail, 2), bag(api.ISword, 3)}),
		moves("beside what is worn", []api.Item{worn(api.ISword), worn(api.IMail), here(api.ISword)}, []api.Item{worn(api.ISword), worn(api.IMail), bag(api.ISword, 0)}),
		still("a full bag", with(full(), here(api.IPotion))...),
		still("a full bag, gold behind", with(full(), here(api.IPotion), here(api.IGold))...),
		still("a full bag, first", with([]api.Item{here(api.ISword)}, full()...)...),
	} {
		checkDeed(t, d, api.Pick, hx)
	}
}

func TestPickGold(t *testing.T) {
	gold := []api.Item{here(api.IGold)}
	for was, now := range map[int]int{0: 5, 1: 6, 4: 9, 300: 305, 993: 998, 994: 999, 995: 999, 996: 999, 998: 999, 999: 999} {
		checkDeed(t, deed{"gold", gold, []api.Item{{}}, was, now, 10, 10, false}, api.Pick, hx)
		checkDeed(t, deed{"gold, a full bag", with(full(), gold...), with(full(), api.Item{}), was, now, 10, 10, false}, api.Pick, hx)
		checkDeed(t, deed{"gold, one at a time", with(gold, gold...), with([]api.Item{{}}, gold...), was, now, 10, 10, false}, api.Pick, hx)
		checkDeed(t, deed{"gold ahead of a sword", with(gold, here(api.ISword)), with([]api.Item{{}}, here(api.ISword)), was, now, 10, 10, false}, api.Pick, hx)
	}
}

// TestPickIsNotPaid: who has no gold takes what lies there all the same, in the shop too.
func TestPickIsNotPaid(t *testing.T) {
	for gold := range 12 {
		checkDeed(t, deed{"a potion", []api.Item{here(api.IPotion)}, []api.Item{bag(api.IPotion, 0)}, gold, gold, 10, 10, false}, api.Pick, hx)
		was := []api.Item{shelf(api.IMail, 0), cell(api.IPotion, 5, 1)}
		checkDeed(t, deed{"in the shop", was, []api.Item{was[0], bag(api.IPotion, 0)}, gold, gold, 10, 10, false}, api.Pick, 5)
		checkDeed(t, deed{"wares only", was[:1], was[:1], gold, gold, 10, 10, false}, api.Pick, 5)
	}
}

// Use.

func TestUse(t *testing.T) {
	for _, d := range []deed{
		still("nothing"),
		still("no potion", bag(api.ISword, 0), bag(api.IMail, 1), worn(api.ISword), bag(api.IMail, 3)),
		still("potions elsewhere", here(api.IPotion), shelf(api.IPotion, 0), cell(api.IPotion, 4, 2)),
		{"slot 0", []api.Item{bag(api.IPotion, 0)}, []api.Item{{}}, 300, 300, 10, 16, true},
		{"slot 3", []api.Item{bag(api.IPotion, 3)}, []api.Item{{}}, 300, 300, 10, 16, true},
		{"slot 1 of several", []api.Item{bag(api.IPotion, 3), bag(api.ISword, 0), bag(api.IPotion, 1), bag(api.IPotion, 2)}, []api.Item{bag(api.IPotion, 3), bag(api.ISword, 0), {}, bag(api.IPotion, 2)}, 300, 300, 10, 16, true},
		{"slot 2 behind others", []api.Item{bag(api.IMail, 0), bag(api.ISword, 1), bag(api.IPotion, 3), bag(api.IPotion, 2)}, []api.Item{bag(api.IMail, 0), bag(api.ISword, 1), bag(api.IPotion, 3), {}}, 300, 300, 10, 16, true},
		{"of the bag, one lies there", []api.Item{here(api.IPotion), bag(api.IPotion, 2)}, []api.Item{here(api.IPotion), {}}, 300, 300, 10, 16, true},
	} {
		checkDeed(t, d, api.Use, hx)
	}
}

// TestUseCures: up to Max, and at Max too: it is gone, and so is Poison.
func TestUseCures(t *testing.T) {
	for hp := 1; hp <= 20; hp++ {
		then := hp + 6
		if then > 20 {
			then = 20
		}
		for poison := range 10 {
			w := world(bag(api.IPotion, 1))
			w.Ents[row].HP, w.Ents[row].Poison = hp, poison
			want := world()
			want.Ents[row].HP, want.Ents[row].Poison = then, 0
			if got := Do(w, me, api.Use); !same(got, want) {
				t.Errorf("P701: Use with HP %d, Poison %d: %+v, %v", hp, poison, got.Ents[row], got.Items[3])
			}
			// Without a potion nothing is cured.
			w.Items[3].Kind = api.IMail
			if got := Do(w, me, api.Use); !same(got, w) {
				t.Errorf("P701: Use of no potion with HP %d, Poison %d: %+v", hp, poison, got.Ents[row])
			}
		}
	}
}

// TestUseCuresToItsOwnMax: Max is the row's, whatever it is.
func TestUseCuresToItsOwnMax(t *testing.T) {
	for _, x := range [][3]int{{1, 3, 3}, {3, 3, 3}, {1, 7, 7}, {1, 8, 7}, {50, 99, 56}, {0, 1, 1}} {
		w := world(bag(api.IPotion, 0))
		w.Ents[row].HP, w.Ents[row].Max = x[0], x[1]
		if got := Do(w, me, api.Use).Ents[row]; got.HP != x[2] || got.Max != x[1] {
			t.Errorf("P701: Use with HP %d of %d: %d of %d", x[0], x[1], got.HP, got.Max)
		}
	}
}

// Wear.

// TestSwordsChangePlaces is the chapter's example.
func TestSwordsChangePlaces(t *testing.T) {
	w := Do(world(bag(api.ISword, 2), worn(api.ISword)), me, api.Wear)
	if want := []api.Item{worn(api.ISword), bag(api.ISword, 2)}; !slices.Equal(w.Items[3:5], want) {
		t.Errorf("P701: %v, not %v", w.Items[3:5], want)
	}
}

func TestWear(t *testing.T) {
	for _, d := range []deed{
		still("nothing"),
		still("nothing to wear", bag(api.IPotion, 0), bag(api.IPotion, 3)),
		still("worn already", worn(api.ISword), worn(api.IMail), bag(api.IPotion, 1)),
		still("elsewhere", here(api.ISword), shelf(api.IMail, 0), shelf(api.ISword, 1)),
		moves("a sword", []api.Item{bag(api.ISword, 3)}, []api.Item{worn(api.ISword)}),
		moves("a mail", []api.Item{bag(api.IMail, 0)}, []api.Item{worn(api.IMail)}),
		moves("a sword ahead of a mail", []api.Item{bag(api.IMail, 2), bag(api.ISword, 1)}, []api.Item{bag(api.IMail, 2), worn(api.ISword)}),
		moves("a mail ahead of a sword", []api.Item{bag(api.ISword, 3), bag(api.IPotion, 0), bag(api.IMail, 1)}, []api.Item{bag(api.ISword, 3), bag(api.IPotion, 0), worn(api.IMail)}),
		moves("a mail behind potions", []api.Item{bag(api.IPotion, 0), bag(api.IPotion, 1), bag(api.IPotion, 2), bag(api.IMail, 3)}, []api.Item{bag(api.IPotion, 0), bag(api.IPotion, 1), bag(api.IPotion, 2), worn(api.IMail)}),
		moves("a sword for a sword", []api.Item{worn(api.ISword), bag(api.IPotion, 0), bag(api.ISword, 1)}, []api.Item{bag(api.ISword, 1), bag(api.IPotion, 0), worn(api.ISword)}),
		moves("a mail for a mail", []api.Item{bag(api.IMail, 3), worn(api.IMail)}, []api.Item{worn(api.IMail), bag(api.IMail, 3)}),
		moves("a sword beside a mail", []api.Item{worn(api.IMail), bag(api.ISword, 2)}, []api.Item{worn(api.IMail), worn(api.ISword)}),
		moves("a mail beside a sword", []api.Item{bag(api.IMail, 2), worn(api.ISword)}, []api.Item{worn(api.IMail), worn(api.ISword)}),
		moves("a mail for a mail, a sword stays", []api.Item{worn(api.ISword), worn(api.IMail), bag(api.IMail, 0), bag(api.ISword, 1)}, []api.Item{worn(api.ISword), bag(api.IMail, 0), worn(api.IMail), bag(api.ISword, 1)}),
		moves("of a full bag", with(full(), worn(api.IMail)), []api.Item{worn(api.IMail), bag(api.IPotion, 0), bag(api.ISword, 3), bag(api.IPotion, 1), bag(api.IMail, 2)}),
	} {
		checkDeed(t, d, api.Wear, hx)
	}
}

// TestWearTwice: what has changed places changes back.
func TestWearTwice(t *testing.T) {
	for _, kind := range []int{api.ISword, api.IMail} {
		for slot := range api.Bag {
			w := world(bag(kind, slot), worn(kind), bagOf(3, kind, slot), wornOf(3, kind))
			once := Do(w, me, api.Wear)
			if twice := Do(once, me, api.Wear); same(once, w) || !same(twice, w) {
				t.Errorf("P701: kind %d in slot %d: %v, then %v", kind, slot, once.Items[3:7], twice.Items[3:7])
			}
		}
	}
}

// Drop.

func TestDrop(t *testing.T) {
	for _, d := range []deed{
		still("an empty bag"),
		still("worn only", worn(api.ISword), worn(api.IMail)),
		still("one lies there", bag(api.IPotion, 0), here(api.ISword)),
		still("gold lies there", here(api.IGold), bag(api.IPotion, 1), bag(api.IMail, 2)),
		moves("a potion", []api.Item{bag(api.IPotion, 0)}, []api.Item{here(api.IPotion)}),
		moves("a sword", []api.Item{bag(api.ISword, 3)}, []api.Item{here(api.ISword)}),
		moves("a mail", []api.Item{bag(api.IMail, 1)}, []api.Item{here(api.IMail)}),
		moves("the lowest slot of several", []api.Item{bag(api.IPotion, 3), bag(api.ISword, 1), bag(api.IMail, 2)}, []api.Item{bag(api.IPotion, 3), here(api.ISword), bag(api.IMail, 2)}),
		moves("of a full bag", full(), []api.Item{bag(api.IMail, 2), here(api.IPotion), bag(api.ISword, 3), bag(api.IPotion, 1)}),
		moves("not what is worn", []api.Item{worn(api.ISword), bag(api.IMail, 3)}, []api.Item{worn(api.ISword), here(api.IMail)}),
		moves("with wares about", []api.Item{shelf(api.IMail, 1), bag(api.IMail, 3)}, []api.Item{shelf(api.IMail, 1), here(api.IMail)}),
	} {
		checkDeed(t, d, api.Drop, hx)
	}
}

// TestDropOnEachCell: it lies at the hero, wherever that stands.
func TestDropOnEachCell(t *testing.T) {
	for y := 1; y < 4; y++ {
		for x := 1; x < 8; x++ {
			w := world(bag(api.ISword, 1), bag(api.IPotion, 2))
			w.Ents[row].X, w.Ents[row].Y = x, y
			want := twinOf(w)
			want.Items[3] = cell(api.ISword, x, y)
			got := Do(w, me, api.Drop)
			if !same(got, want) || !Check(got) {
				t.Errorf("P701: Drop at (%d, %d): %v", x, y, got.Items[3])
			}
			if back := Do(got, me, api.Pick); back.Items[3] != bag(api.ISword, 0) {
				t.Errorf("P701: Pick of what was dropped at (%d, %d): %v", x, y, back.Items[3])
			}
			if again := Do(got, me, api.Drop); !same(again, got) {
				t.Errorf("P701: Drop on what was dropped at (%d, %d): %v", x, y, again.Items)
			}
		}
	}
}

// Buy.

func TestBuy(t *testing.T) {
	wares := []api.Item{shelf(api.IMail, 2), shelf(api.IPotion, 0), shelf(api.ISword, 1)}
	for _, d := range []deed{
		{"gold of 5", wares, []api.Item{wares[0], bag(api.IPotion, 0), wares[2]}, 5, 0, 10, 10, false},
		{"gold of 6", wares, []api.Item{wares[0], bag(api.IPotion, 0), wares[2]}, 6, 1, 10, 10, false},
		{"gold of 999", wares, []api.Item{wares[0], bag(api.IPotion, 0), wares[2]}, 999, 994, 10, 10, false},
		{"gold of 4", wares, wares, 4, 4, 10, 10, false},
		{"gold of 1", wares, wares, 1, 1, 10, 10, false},
		{"no gold", wares, wares, 0, 0, 10, 10, false},
		{"slots 2 and 1", []api.Item{wares[0], wares[2]}, []api.Item{wares[0], bag(api.ISword, 0)}, 11, 6, 10, 10, false},
		{"slot 2", []api.Item{wares[0]}, []api.Item{bag(api.IMail, 0)}, 11, 6, 10, 10, false},
		{"no ware", nil, nil, 300, 300, 10, 10, false},
		{"no ware but what lies there", []api.Item{cell(api.IPotion, 5, 1), bag(api.ISword, 0)}, []api.Item{cell(api.IPotion, 5, 1), bag(api.ISword, 0)}, 300, 300, 10, 10, false},
		{"a ware beside what lies there", []api.Item{cell(api.IPotion, 5, 1), shelf(api.IMail, 1)}, []api.Item{cell(api.IPotion, 5, 1), bag(api.IMail, 0)}, 300, 295, 10, 10, false},
		{"a full bag", with(full(), wares...), with(full(), wares...), 300, 300, 10, 10, false},
		{"a free slot in the midst", with(wares, bag(api.ISword, 0), bag(api.ISword, 2)), []api.Item{wares[0], bag(api.IPotion, 1), wares[2], bag(api.ISword, 0), bag(api.ISword, 2)}, 300, 295, 10, 10, false},
		{"the last free slot", with(wares, bag(api.ISword, 0), bag(api.ISword, 2), bag(api.IMail, 1)), []api.Item{wares[0], bag(api.IPotion, 3), wares[2], bag(api.ISword, 0), bag(api.ISword, 2), bag(api.IMail, 1)}, 300, 295, 10, 10, false},
	} {
		checkDeed(t, d, api.Buy, 5)
	}
}

// TestBuyInTheShopAlone: on cells of any other kind, and beside it, nothing is sold.
func TestBuyInTheShopAlone(t *testing.T) {
	wares := []api.Item{shelf(api.IPotion, 0), shelf(api.IMail, 1)}
	for x := 1; x < 8; x++ {
		if x != 5 {
			checkDeed(t, still("not in the shop", wares...), api.Buy, x)
		}
	}
	for kind := range 256 {
		w := world(wares...)
		w.Cells[hy*api.Wide+hx] = byte(kind)
		want := twinOf(w)
		if kind == api.CShop {
			want.Items[3], want.Gold[me] = bag(api.IPotion, 0), 295
		}
		if got := Do(w, me, api.Buy); !same(got, want) {
			t.Errorf("P701: Buy on kind %d: %v, gold %d", kind, got.Items[3:5], got.Gold[me])
		}
	}
	// Of too few cells the shop is none.
	w := world(wares...)
	w.Ents[row].X, w.Cells = 5, w.Cells[:shop]
	if got := Do(w, me, api.Buy); !same(got, w) {
		t.Errorf("P701: Buy where no cell is told: %v", got.Items[3:5])
	}
}

// TestBuyTillItIsOver: ware by ware, as long as there are wares, gold and room.
func TestBuyTillItIsOver(t *testing.T) {
	for gold := range 22 {
		for slots := range api.Bag + 1 {
			w := world(shelf(api.IMail, 2), shelf(api.ISword, 1), shelf(api.IPotion, 0))
			for slot := slots; slot < api.Bag; slot++ {
				w.Items[10+slot] = bag(api.IPotion, slot)
			}
			w.Gold[me], w.Ents[row].X = gold, 5
			for range 5 {
				w = Do(w, me, api.Buy)
			}
			n := min(3, gold/5, slots)
			want := world(shelf(api.IMail, 2), shelf(api.ISword, 1), shelf(api.IPotion, 0))
			copy(want.Items[10:], w.Items[10:])
			for i := range n {
				want.Items[5-i] = bag(api.IPotion+i, i)
			}
			if !slices.Equal(w.Items, want.Items) || w.Gold[me] != gold-5*n {
				t.Errorf("P701: gold of %d, %d slots: %v, %d left", gold, slots, w.Items[3:6], w.Gold[me])
			}
		}
	}
}

// Whose it is.

// plenty is a world in which each seat could do anything, on a floor that is a shop everywhere.
func plenty() api.World {
	w := world()
	for i := range w.Cells {
		w.Cells[i] = api.CShop
	}
	w.Items = w.Items[:0]
	for seat := range api.Seats {
		w.Items = append(w.Items, bagOf(seat, api.IPotion, 3), bagOf(seat, api.ISword, 1), wornOf(seat, api.IMail), wornOf(seat, api.ISword))
	}
	for _, e := range w.Ents {
		if e.Kind == api.EHero {
			w.Items = append(w.Items, cell(api.IPotion, e.X, e.Y))
		}
	}
	for slot := range api.Shelf {
		w.Items = append(w.Items, shelf(api.IMail, slot))
	}
	w.Items = append(w.Items, make([]api.Item, api.MaxItems-len(w.Items))...)
	return w
}

func TestSeatsWithoutAHero(t *testing.T) {
	w := plenty()
	if !Check(w) {
		t.Fatal("P703: a world of these tests is none")
	}
	for input := range 11 {
		if got := Do(w, 1, input); !same(got, w) {
			t.Errorf("P701: input %d of seat 1, which has no hero", input)
		}
	}
	// A monster, or a row that is free, is no hero, whatever its seat.
	w.Ents[row].Kind = api.EMage
	w.Ents[7] = api.Ent{Gen: 3, Seat: 3, X: 5, Y: 1}
	for seat := 1; seat < api.Seats; seat++ {
		for input := range 11 {
			if got := Do(w, seat, input); !same(got, w) {
				t.Errorf("P701: input %d of seat %d, which has no hero", input, seat)
			}
		}
	}
	for _, l := range [][]api.Ent{nil, {}, w.Ents[:1]} {
		v := plenty()
		v.Ents = l
		for seat := range api.Seats {
			if got := Do(v, seat, api.Wear); !same(got, v) {
				t.Errorf("P701: seat %d, of %d rows of entities", seat, len(l))
			}
		}
	}
}

// ends are numbers at both ends of their range, and such as are a small one modulo a power of 2.
func ends(n int) []int {
	return []int{math.MinInt, math.MinInt + n, math.MaxInt, math.MaxInt - n, n - 1<<32, n + 1<<32, n + 1<<31, n + 1<<16, n + 256, n - 256, n + 1<<62, ^n}
}

func TestSeatsThatAreNone(t *testing.T) {
	none := []int{-1, -2, -4, 4, 5, 6, 8, 10, 100}
	for n := range api.Seats {
		none = append(none, ends(n)...)
	}
	for _, seat := range none {
		for input := range 11 {
			w := plenty()
			if got := Do(w, seat, input); !same(got, w) {
				t.Errorf("P701: input %d of seat %d, which is none", input, seat)
			}
			// A row that says that it has a hero does not make it a seat.
			w.Ents[row].Seat = seat
			w.Items[30], w.Items[31], w.Items[32] = bagOf(seat, api.ISword, 0), bagOf(seat, api.IPotion, 1), here(api.IGold)
			if got := Do(w, seat, input); !same(got, w) {
				t.Errorf("P701: input %d of seat %d, which is none and has a hero", input, seat)
			}
		}
		w := plenty()
		if got := Sweep(w, seat); !same(got, w) {
			t.Errorf("P702: Sweep of seat %d, which is none", seat)
		}
		if atk, def := Bonus(w, seat); atk != 0 || def != 0 {
			t.Errorf("P702: Bonus of seat %d, which is none: %d, %d", seat, atk, def)
		}
	}
}

func TestInputsThatDoNothing(t *testing.T) {
	inputs := []int{api.Stay, api.North, api.East, api.South, api.West, api.Descend}
	for n := -300; n <= 300; n++ {
		if n < 0 || n > 10 {
			inputs = append(inputs, n)
		}
	}
	for n := range 11 {
		inputs = append(inputs, ends(n)...)
	}
	w := plenty()
	for _, input := range inputs {
		for seat := range api.Seats {
			if got := Do(w, seat, input); !same(got, w) {
				t.Errorf("P701: input %d of seat %d: %v, gold %v", input, seat, got.Items, got.Gold)
			}
		}
	}
}

// TestItsOwnHero: of each seat what it has, where its hero stands.
func TestItsOwnHero(t *testing.T) {
	for _, x := range []struct{ seat, row, lies int }{{0, 1, 16}, {2, row, 17}, {3, 7, 18}} {
		potion, sword, old := 4*x.seat, 4*x.seat+1, 4*x.seat+3
		for input, change := range map[int]func(v *api.World){
			api.Pick: func(v *api.World) { v.Items[x.lies] = bagOf(x.seat, api.IPotion, 0) },
			api.Use: func(v *api.World) {
				v.Items[potion] = api.Item{}
				v.Ents[x.row].HP, v.Ents[x.row].Poison = v.Ents[x.row].HP+6, 0
			},
			api.Wear: func(v *api.World) {
				v.Items[sword], v.Items[old] = wornOf(x.seat, api.ISword), bagOf(x.seat, api.ISword, 1)
			},
			api.Drop: func(v *api.World) {},
			api.Buy: func(v *api.World) {
				v.Items[19] = bagOf(x.seat, api.IMail, 0)
				v.Gold[x.seat] -= 5
			},
		} {
			w, want := plenty(), plenty()
			change(&want)
			if got := Do(w, x.seat, input); !same(got, want) {
				t.Errorf("P701: input %d of seat %d: %v, %v, not %v, %v", input, x.seat, got.Items, got.Gold, want.Items, want.Gold)
			}
		}
		w, want := plenty(), plenty()
		w.Items[x.lies], want.Items[x.lies] = api.Item{}, api.Item{}
		want.Items[sword] = cell(api.ISword, w.Ents[x.row].X, w.Ents[x.row].Y)
		if got := Do(w, x.seat, api.Drop); !same(got, want) {
			t.Errorf("P701: Drop of seat %d: %v, not %v", x.seat, got.Items, want.Items)
		}
	}
}

// TestTheLowerOfTwoHeroes: as ents has it.
func TestTheLowerOfTwoHeroes(t *testing.T) {
	w := world(bag(api.IPotion, 0))
	w.Ents[20] = w.Ents[row]
	w.Ents[20].HP = 1
	if got := Do(w, me, api.Use); got.Ents[row].HP != 16 || got.Ents[20].HP != 1 {
		t.Errorf("P701: two heroes of a seat: HP %d, %d", got.Ents[row].HP, got.Ents[20].HP)
	}
}

// Sweep and Bonus.

func TestSweep(t *testing.T) {
	w := world()
	if got := Sweep(w, me); !same(got, w) {
		t.Errorf("P702: Sweep of nothing: %v", got.Items)
	}
	rest := with(others(), here(api.IPotion), shelf(api.ISword, 2))
	w = world(rest...)
	if got := Sweep(w, me); !same(got, w) || !Check(got) {
		t.Errorf("P702: Sweep with items of others only: %v", got.Items)
	}
	mine := with(full(), worn(api.ISword), worn(api.IMail))
	w, want := world(with(mine, rest...)...), world(with(make([]api.Item, len(mine)), rest...)...)
	if got := Sweep(w, me); !same(got, want) || !Check(w) || !Check(got) {
		t.Errorf("P702: Sweep of bag and worn: %v, not %v", got.Items, want.Items)
	}
	for i, item := range mine {
		w, want := world(with(rest, item)...), world(with(rest, api.Item{})...)
		if got := Sweep(w, me); !same(got, want) {
			t.Errorf("P702: Sweep of item %d alone: %v", i, got.Items)
		}
	}
}

// TestSweepOfEachSeat: a hero or not, its own and all of it.
func TestSweepOfEachSeat(t *testing.T) {
	for seat := range api.Seats {
		w := plenty()
		want := twinOf(w)
		for i, item := range want.Items {
			if item.A == seat && (item.Where == api.WBag || item.Where == api.WWorn) {
				want.Items[i] = api.Item{}
			}
		}
		got := Sweep(w, seat)
		if !same(got, want) || same(got, w) || !Check(got) {
			t.Errorf("P702: Sweep of seat %d: %v", seat, got.Items)
		}
		for other := range api.Seats {
			atk, def := Bonus(got, other)
			if other == seat && (atk != 0 || def != 0) || other != seat && (atk != 3 || def != 2) {
				t.Errorf("P702: Bonus of seat %d behind Sweep of seat %d: %d, %d", other, seat, atk, def)
			}
		}
		if again := Sweep(got, seat); !same(again, got) {
			t.Errorf("P702: Sweep of seat %d twice", seat)
		}
	}
}

// TestSweepItemsAtSuchNumbers: A is a seat's number in a bag or worn alone.
func TestSweepItemsAtSuchNumbers(t *testing.T) {
	w := world(cell(api.IPotion, me, 1), cell(api.IGold, me, 2), shelf(api.ISword, me), bagOf(3, api.IPotion, me))
	if got := Sweep(w, me); !same(got, w) || !Check(w) {
		t.Errorf("P702: Sweep of nothing: %v", got.Items[3:7])
	}
}

func TestBonus(t *testing.T) {
	for i, x := range []struct {
		l        []api.Item
		atk, def int
	}{
		{nil, 0, 0},
		{[]api.Item{worn(api.ISword)}, 3, 0},
		{[]api.Item{worn(api.IMail)}, 0, 2},
		{[]api.Item{worn(api.ISword), worn(api.IMail)}, 3, 2},
		{[]api.Item{worn(api.IMail), worn(api.ISword)}, 3, 2},
		{[]api.Item{bag(api.ISword, 0), bag(api.IMail, 1), here(api.ISword), cell(api.IMail, 4, 2), shelf(api.ISword, 2), shelf(api.IMail, 0)}, 0, 0},
		{[]api.Item{bag(api.ISword, 0), worn(api.IMail), bag(api.IMail, 3)}, 0, 2},
	} {
		for _, more := range [][]api.Item{nil, {wornOf(0, api.ISword), wornOf(1, api.IMail), wornOf(3, api.ISword), wornOf(3, api.IMail)}} {
			w := world(with(x.l, more...)...)
			if atk, def := Bonus(w, me); atk != x.atk || def != x.def {
				t.Errorf("P702: Bonus %d: %d, %d, not %d, %d", i, atk, def, x.atk, x.def)
			}
		}
	}
	w := world(wornOf(0, api.ISword), wornOf(1, api.IMail), wornOf(3, api.ISword), wornOf(3, api.IMail))
	for seat, want := range [][2]int{{3, 0}, {0, 2}, {0, 0}, {3, 2}} {
		if atk, def := Bonus(w, seat); [2]int{atk, def} != want {
			t.Errorf("P702: Bonus of seat %d: %d, %d, not %v", seat, atk, def, want)
		}
	}
	if atk, def := Bonus(api.World{}, 0); atk != 0 || def != 0 {
		t.Errorf("P702: Bonus in an empty world: %d, %d", atk, def)
	}
}

// Lay.

// some are n items, no two alike and none of them gone.
func some(n int) []api.Item {
	l := make([]api.Item, n)
	for i := range l {
		l[i] = cell(1+i%4, i%24, i/24)
	}
	return l
}

// laid is what P703 says of Lay, gone through in the plainest way.
func laid(l []api.Item, more []api.Item) []api.Item {
	out := slices.Clone(l)
	for _, item := range more {
		for i := 0; i < len(out) && i < 40; i++ {
			if out[i].Kind == 0 && out[i].Where == 0 && out[i].A == 0 && out[i].B == 0 {
				out[i] = item
				break
			}
		}
	}
	return out
}

func checkLay(t *testing.T, name string, l, more, want []api.Item) {
	t.Helper()
	if got := Lay(l, more...); !slices.Equal(got, want) {
		t.Errorf("P703: Lay, %s: %v, not %v", name, got, want)
	}
}

func TestLay(t *testing.T) {
	gone := make([]api.Item, api.MaxItems)
	a, b, c := bag(api.ISword, 1), here(api.IGold), shelf(api.IMail, 2)
	checkLay(t, "no more", some(40), nil, some(40))
	checkLay(t, "no more into rows that are gone", gone, nil, gone)
	checkLay(t, "three", gone, []api.Item{a, b, c}, with([]api.Item{a, b, c}, gone[3:]...))
	midst := some(40)
	midst[0], midst[7], midst[8], midst[39] = api.Item{}, api.Item{}, api.Item{}, api.Item{}
	want := slices.Clone(midst)
	want[0], want[7] = a, b
	checkLay(t, "rows in the midst", midst, []api.Item{a, b}, want)
	want[8], want[39] = c, a
	checkLay(t, "just enough rows", midst, []api.Item{a, b, c, a}, want)
	checkLay(t, "too few rows", midst, []api.Item{a, b, c, a, b, c}, want)
	checkLay(t, "no row", some(40), []api.Item{a, b, c}, some(40))
	checkLay(t, "all rows", gone, some(40), some(40))
	checkLay(t, "one more than all rows", gone, some(41), some(40))
	checkLay(t, "many more", gone, some(300), some(40))
}

// TestLayIntoEachRow: the one that is gone, wherever it is.
func TestLayIntoEachRow(t *testing.T) {
	for i := range api.MaxItems {
		l, want := some(40), some(40)
		l[i], want[i] = api.Item{}, worn(api.IMail)
		checkLay(t, "one row", l, []api.Item{worn(api.IMail), here(api.ISword)}, want)
	}
}

func TestLayIntoFewAndManyRows(t *testing.T) {
	for _, n := range []int{0, 1, 2, 39, 40, 41, 80, 300} {
		for _, m := range []int{0, 1, 2, 39, 40, 41, 100} {
			want := make([]api.Item, n)
			copy(want[:min(n, 40)], some(m))
			checkLay(t, "rows that are gone", make([]api.Item, n), some(m), want)
			checkLay(t, "none that is gone", some(n), some(m), some(n))
		}
		// What is gone behind the first MaxItems stays so.
		l := with(some(40), make([]api.Item, n)...)
		checkLay(t, "rows beyond", l, some(5), l)
		l[39] = api.Item{}
		want := with(some(39), here(api.ISword))
		checkLay(t, "the last row", l, []api.Item{here(api.ISword), here(api.IMail)}, append(want, make([]api.Item, n)...))
	}
	checkLay(t, "no list", nil, some(3), nil)
	checkLay(t, "no list, no more", nil, nil, nil)
	// Spare room is no row.
	whole := make([]api.Item, 12)
	checkLay(t, "spare room", whole[:2], some(5), some(2))
}

// TestLayItemsThatAreNone: they are taken as they are, and rows too: gone is all zero and nothing else.
func TestLayItemsThatAreNone(t *testing.T) {
	odd := []api.Item{
		{Kind: -1}, {Kind: 5}, {Where: 7}, {A: -3}, {B: 99}, {Kind: math.MinInt, Where: math.MaxInt, A: math.MinInt, B: math.MaxInt},
		{Kind: api.IPotion}, {Where: api.WCell}, {A: 1}, {B: 1}, {Kind: 1 << 32}, {Where: 1 << 32}, {A: 1 << 32}, {B: 1 << 32},
	}
	gone := make([]api.Item, api.MaxItems)
	checkLay(t, "odd ones", gone, odd, with(odd, gone[len(odd):]...))
	checkLay(t, "upon odd ones", with(odd, gone[len(odd):]...), []api.Item{here(api.IGold)}, with(odd, with([]api.Item{here(api.IGold)}, gone[len(odd)+1:]...)...))
	// One that is gone leaves its row gone: the next one is there.
	a := here(api.IGold)
	checkLay(t, "one that is gone", gone, []api.Item{{}}, gone)
	checkLay(t, "one behind one that is gone", gone, []api.Item{{}, a}, with([]api.Item{a}, gone[1:]...))
	checkLay(t, "one behind many that are gone", with(some(39), api.Item{}), with(make([]api.Item, 60), a), with(some(39), a))
}

func TestLayByChance(t *testing.T) {
	r := rand.New(rand.NewPCG(7, 3))
	for range 3000 {
		l := make([]api.Item, r.IntN(60))
		for i := range l {
			if r.IntN(3) > 0 {
				l[i] = api.Item{Kind: r.IntN(3), Where: r.IntN(2), A: r.IntN(2), B: r.IntN(2)}
			}
		}
		more := make([]api.Item, r.IntN(30))
		for i := range more {
			more[i] = api.Item{Kind: r.IntN(3), Where: r.IntN(2), A: r.IntN(2), B: r.IntN(2)}
		}
		checkLay(t, "by chance", l, more, laid(l, more))
	}
}

// Check.

func TestCheckAllows(t *testing.T) {
	for i, l := range [][]api.Item{
		nil, full(), others(), with(full(), others()...),
		{cell(api.IPotion, 1, 1), cell(api.ISword, 2, 1), cell(api.IMail, 3, 1), cell(api.IGold, 4, 1), cell(api.IGold, 5, 1), cell(api.IPotion, 7, 1)},
		{bag(api.IPotion, 0), bag(api.ISword, 1), bag(api.IMail, 2), bag(api.IPotion, 3)},
		{worn(api.ISword), worn(api.IMail), wornOf(0, api.ISword), wornOf(3, api.IMail), wornOf(1, api.ISword)},
		{shelf(api.IPotion, 0), shelf(api.ISword, 1), shelf(api.IMail, 2)},
		// The same numbers, but not the same place; the same slot, but not the same seat.
		{cell(api.IPotion, 2, 1), bag(api.ISword, 1), worn(api.IMail), shelf(api.IMail, 2)},
		{bagOf(0, api.IPotion, 1), bagOf(1, api.IPotion, 1), bagOf(2, api.IPotion, 1), bagOf(3, api.IPotion, 1)},
		{cell(api.IPotion, 2, 3), cell(api.IPotion, 3, 2), cell(api.IPotion, 2, 2), cell(api.IPotion, 3, 3)},
	} {
		if w := world(l...); !Check(w) {
			t.Errorf("P703: Check of list %d: %v", i, l)
		}
	}
	if !Check(plenty()) {
		t.Error("P703: Check of a world with plenty")
	}
}

// refusedAlone are items each of which may not be, wherever the others are.
func refusedAlone() map[string][]api.Item {
	all := map[string][]api.Item{
		"kind":  {{Kind: 0, Where: api.WCell, A: 2, B: 2}, {Kind: -1, Where: api.WCell, A: 2, B: 2}, {Kind: 5, Where: api.WCell, A: 2, B: 2}, bag(0, 1), bag(5, 1), worn(0), shelf(0, 1), shelf(5, 1), shelf(-1, 1)},
		"gone":  {{Kind: api.IPotion}, {Kind: api.IGold}, {A: 1}, {B: 1}, {A: -1}, {Kind: api.IMail, A: 2, B: 2}, {A: 2, B: 2}, {Kind: -1}},
		"where": {{Kind: api.IPotion, Where: 5}, {Kind: api.IPotion, Where: -1}, {Kind: api.IPotion, Where: 5, A: 1, B: 1}, {Where: 5}, {Where: -1}},
		"cell":  {here(0), cell(api.IPotion, 0, 0), cell(api.IPotion, 0, 1), cell(api.IPotion, 8, 1), cell(api.IPotion, 1, 4), cell(api.IGold, 23, 15), cell(api.ISword, -1, 1), cell(api.ISword, 24, 1), cell(api.ISword, 1, 16), cell(api.IMail, 1, -1), cell(api.IMail, 25, 0), cell(api.IMail, 49, 0), cell(api.IMail, -23, 2)},
		"bag":   {bag(api.IPotion, -1), bag(api.IPotion, 4), bag(api.ISword, 5), bagOf(-1, api.IPotion, 0), bagOf(4, api.IPotion, 0), bagOf(5, api.IMail, 0), bag(api.IGold, 0), bag(api.IGold, 3)},
		"worn": {
			{Kind: api.ISword, Where: api.WWorn, A: me, B: 1}, {Kind: api.IMail, Where: api.WWorn, A: me, B: 0}, {Kind: api.ISword, Where: api.WWorn, A: me, B: 2}, {Kind: api.ISword, Where: api.WWorn, A: me, B: -1}, {Kind: api.IMail, Where: api.WWorn, A: me, B: 2}, {Kind: api.IMail, Where: api.WWorn, A: me, B: -1},
			{Kind: api.IPotion, Where: api.WWorn, A: me, B: 0}, {Kind: api.IPotion, Where: api.WWorn, A: me, B: 1}, {Kind: api.IPotion, Where: api.WWorn, A: me, B: -1}, {Kind: api.IGold, Where: api.WWorn, A: me, B: 0}, {Kind: api.IGold, Where: api.WWorn, A: me, B: 1}, {Kind: api.IGold, Where: api.WWorn, A: me, B: 2},
			wornOf(-1, api.ISword), wornOf(4, api.ISword), wornOf(4, api.IMail), wornOf(-1, api.IMail),
		},
		"shop": {shelf(api.IPotion, -1), shelf(api.IPotion, 3), shelf(api.ISword, 4), shelf(api.IGold, 0), shelf(api.IGold, 2), {Kind: api.IPotion, Where: api.WShop, A: 1, B: 1}, {Kind: api.IPotion, Where: api.WShop, A: 1, B: -1}, {Kind: api.IMail, Where: api.WShop, A: 0, B: me}},
	}
	for n := range 5 {
		for _, end := range ends(n) {
			all["ends"] = append(all["ends"], api.Item{Kind: end, Where: api.WCell, A: 2, B: 2}, api.Item{Kind: api.IPotion, Where: end, A: 2, B: 2}, cell(api.IPotion, end, 2), cell(api.IPotion, 2, end),
				bag(api.IPotion, end), bagOf(end, api.IPotion, 0), wornOf(end, api.ISword), api.Item{Kind: api.ISword, Where: api.WWorn, A: me, B: end}, shelf(api.IPotion, end), api.Item{Kind: api.IPotion, Where: api.WShop, B: end},
				api.Item{Kind: end}, api.Item{Where: end}, api.Item{A: end}, api.Item{B: end})
		}
	}
	return all
}

func TestCheckRefusesEach(t *testing.T) {
	for what, l := range refusedAlone() {
		for _, item := range l {
			for _, at := range []int{0, 20, 39} {
				for _, rest := range [][]api.Item{nil, {shelf(api.IMail, 2), wornOf(0, api.IMail), cell(api.IGold, 7, 3), bagOf(1, api.IMail, 2)}} {
					w := world(rest...)
					if w.Items[at] = item; Check(w) {
						t.Errorf("P703: Check, %s: %+v in row %d", what, item, at)
					}
				}
			}
		}
	}
}

// TestCheckCellsOfEachKind: an item lies where one can walk, and nowhere else.
func TestCheckCellsOfEachKind(t *testing.T) {
	for kind := range 256 {
		w := world(cell(api.ISword, 10, 9))
		w.Cells[9*24+10] = byte(kind)
		if got := Check(w); got != (kind >= 1 && kind <= 5) {
			t.Errorf("P703: Check of an item on kind %d: %t", kind, got)
		}
	}
	for i := range api.Cells {
		w := world(cell(api.IGold, i%24, i/24))
		walk := w.Cells[i] != api.CWall
		if got := Check(w); got != walk {
			t.Errorf("P703: Check of an item at cell %d: %t", i, got)
		}
		if w.Cells = w.Cells[:i]; Check(w) {
			t.Errorf("P703: Check of an item at cell %d of %d", i, i)
		}
	}
	for _, cells := range [][]byte{nil, {}, make([]byte, 1000)} {
		w := world(bag(api.IPotion, 0), worn(api.ISword), shelf(api.IMail, 0))
		if w.Cells = cells; !Check(w) {
			t.Errorf("P703: Check of items that lie on no cell, %d cells", len(cells))
		}
	}
}

// TestCheckNoTwoInOne: of any two kinds, in any two rows.
func TestCheckNoTwoInOne(t *testing.T) {
	for _, pair := range [][2]api.Item{
		{here(api.IPotion), here(api.IPotion)}, {here(api.IPotion), here(api.IGold)}, {here(api.IGold), here(api.IGold)}, {here(api.ISword), here(api.IMail)},
		{bag(api.IPotion, 0), bag(api.IPotion, 0)}, {bag(api.ISword, 3), bag(api.IMail, 3)}, {bagOf(0, api.ISword, 1), bagOf(0, api.IMail, 1)},
		{worn(api.ISword), worn(api.ISword)}, {worn(api.IMail), worn(api.IMail)}, {wornOf(0, api.IMail), wornOf(0, api.IMail)},
		{shelf(api.IPotion, 0), shelf(api.IPotion, 0)}, {shelf(api.IPotion, 2), shelf(api.IMail, 2)},
	} {
		for _, rows := range [][2]int{{0, 1}, {0, 39}, {38, 39}, {5, 30}} {
			w := world()
			w.Items[rows[0]], w.Items[rows[1]] = pair[0], pair[1]
			if Check(w) {
				t.Errorf("P703: Check of two in one place, rows %v: %v", rows, pair)
			}
			for i := range 2 {
				v := twinOf(w)
				if v.Items[rows[i]] = (api.Item{}); !Check(v) {
					t.Errorf("P703: Check of one alone, row %d: %v", rows[1-i], pair[1-i])
				}
			}
		}
	}
}

func TestCheckLengths(t *testing.T) {
	for n := range 100 {
		for _, l := range [][]api.Item{make([]api.Item, n), append(make([]api.Item, 0, 200), make([]api.Item, n)...)} {
			w := world()
			w.Items = l
			if got := Check(w); got != (n == api.MaxItems) {
				t.Errorf("P703: Check of %d items: %t", n, got)
			}
		}
	}
	w := world()
	if w.Items = nil; Check(w) || Check(api.World{}) {
		t.Error("P703: Check of no items")
	}
}

// What the words say, gone through in the plainest way.

// allowed is P703 of Check.
func allowed(w api.World) bool {
	walk := map[int]bool{}
	for i, kind := range w.Cells {
		walk[i] = kind >= 1 && kind <= 5
	}
	seen := map[[3]int]bool{}
	for _, i := range w.Items {
		if i.Kind == 0 && i.Where == 0 && i.A == 0 && i.B == 0 {
			continue
		}
		ok := false
		switch {
		case i.Where == api.WCell:
			ok = i.A >= 0 && i.A <= 23 && i.B >= 0 && i.B <= 15 && walk[24*i.B+i.A] && i.Kind <= 4
		case i.Where == api.WBag:
			ok = i.A >= 0 && i.A <= 3 && i.B >= 0 && i.B <= 3 && i.Kind <= 3
		case i.Where == api.WWorn:
			ok = i.A >= 0 && i.A <= 3 && (i.Kind == 2 && i.B == 0 || i.Kind == 3 && i.B == 1)
		case i.Where == api.WShop:
			ok = i.A >= 0 && i.A <= 2 && i.B == 0 && i.Kind <= 3
		}
		at := [3]int{i.Where, i.A, i.B}
		if !ok || i.Kind < 1 || seen[at] {
			return false
		}
		seen[at] = true
	}
	return len(w.Items) == 40
}

func TestCheckByChance(t *testing.T) {
	r := rand.New(rand.NewPCG(7, 1))
	counts := map[bool]int{}
	for range 60000 {
		w := world()
		for range r.IntN(8) {
			w.Items[r.IntN(40)] = api.Item{Kind: 1 + r.IntN(4), Where: 1 + r.IntN(4), A: r.IntN(4), B: r.IntN(4)}
		}
		if r.IntN(4) == 0 {
			w.Items[r.IntN(40)] = api.Item{Kind: r.IntN(7) - 1, Where: r.IntN(7) - 1, A: r.IntN(9) - 1, B: r.IntN(7) - 1}
		}
		got := Check(w)
		if counts[got]++; got != allowed(w) {
			t.Fatalf("P703: Check: %t: %v", got, w.Items)
		}
	}
	if counts[true] < 5000 || counts[false] < 5000 {
		t.Errorf("P703: Check was not held against both: %v", counts)
	}
}

// done is P701, the row that is asked for.
func done(w api.World, seat, input int) api.World {
	w = twinOf(w)
	hero := slices.IndexFunc(w.Ents, func(e api.Ent) bool { return e.Kind == api.EHero && e.Seat == seat })
	if seat < 0 || seat > 3 || hero < 0 {
		return w
	}
	e := &w.Ents[hero]
	rowOf := func(where, a, b int) int {
		return slices.IndexFunc(w.Items, func(i api.Item) bool { return i.Where == where && i.A == a && i.B == b })
	}
	lies := rowOf(api.WCell, e.X, e.Y)
	free, potion, wearable, any := -1, -1, -1, -1
	for slot := 3; slot >= 0; slot-- {
		i := rowOf(api.WBag, seat, slot)
		if i < 0 {
			free = slot
			continue
		}
		any = i
		switch w.Items[i].Kind {
		case api.IPotion:
			potion = i
		case api.ISword, api.IMail:
			wearable = i
		}
	}
	switch {
	case input == api.Pick && lies >= 0 && w.Items[lies].Kind == api.IGold:
		w.Items[lies] = api.Item{}
		if w.Gold[seat] += 5; w.Gold[seat] > 999 {
			w.Gold[seat] = 999
		}
	case input == api.Pick && lies >= 0 && free >= 0:
		w.Items[lies] = bagOf(seat, w.Items[lies].Kind, free)
	case input == api.Use && potion >= 0:
		w.Items[potion] = api.Item{}
		if e.HP, e.Poison = e.HP+6, 0; e.HP > e.Max {
			e.HP = e.Max
		}
	case input == api.Wear && wearable >= 0:
		kind, slot := w.Items[wearable].Kind, w.Items[wearable].B
		if old := rowOf(api.WWorn, seat, kind-2); old >= 0 {
			w.Items[old] = bagOf(seat, kind, slot)
		}
		w.Items[wearable] = wornOf(seat, kind)
	case input == api.Drop && any >= 0 && lies < 0:
		w.Items[any] = cell(w.Items[any].Kind, e.X, e.Y)
	case input == api.Buy && w.Cells[24*e.Y+e.X] == api.CShop && w.Gold[seat] >= 5 && free >= 0:
		for slot := range 3 {
			if i := rowOf(api.WShop, slot, 0); i >= 0 {
				w.Items[i] = bagOf(seat, w.Items[i].Kind, free)
				w.Gold[seat] -= 5
				break
			}
		}
	}
	return w
}

// floorOf is a floor of gen with its items laid, and up to four heroes near each other.
func floorOf(t *testing.T, r *rand.Rand) api.World {
	t.Helper()
	floor := 1 + r.IntN(3)
	level, err := gen.Make(int64(r.Uint64()), floor)
	if err != api.OK {
		t.Fatal(err)
	}
	w := api.World{Seed: 3, Frame: 5, Floor: floor, Cells: level.Cells, Ents: make([]api.Ent, api.MaxEnts)}
	w.Items = Lay(make([]api.Item, api.MaxItems), level.Items...)
	for seat := range api.Seats {
		w.Gold[seat] = []int{0, 3, 4, 5, 9, 300, 994, 999}[r.IntN(8)]
		if r.IntN(5) > 0 {
			e := ents.Stats(api.EHero)
			e.Seat, e.HP, e.Poison = seat, 1+r.IntN(20), r.IntN(10)
			w.Ents, _, _ = ents.Spawn(w.Ents, e)
		}
	}
	goAnywhere(w, r)
	return w
}

// goAnywhere puts the heroes of a world on cells, often on such as have something to do.
func goAnywhere(w api.World, r *rand.Rand) {
	var walk, rare []int
	for i, kind := range w.Cells {
		if kind != api.CWall {
			walk = append(walk, i)
		}
		if kind == api.CShop {
			rare = append(rare, i)
		}
	}
	for _, i := range w.Items {
		if i.Where == api.WCell {
			rare = append(rare, 24*i.B+i.A)
		}
	}
	for i := range w.Ents {
		to := walk[r.IntN(len(walk))]
		if len(rare) > 0 && r.IntN(4) > 0 {
			to = rare[r.IntN(len(rare))]
		}
		if w.Ents[i].Kind == api.EHero {
			w.Ents[i].X, w.Ents[i].Y = to%24, to/24
		}
	}
}

// freePlaces are items for places that are free: what may be laid.
func freePlaces(w api.World, r *rand.Rand) []api.Item {
	var out []api.Item
	for range r.IntN(4) {
		item := api.Item{Kind: 1 + r.IntN(4), Where: api.WCell}
		i := r.IntN(api.Cells)
		item.A, item.B = i%24, i/24
		if r.IntN(2) == 0 {
			item = shelf(1+r.IntN(3), r.IntN(3))
		}
		v := twinOf(w)
		v.Items = laid(v.Items, append(slices.Clone(out), item))
		if allowed(v) {
			out = append(out, item)
		}
	}
	return out
}

// TestKeepsCheck is P704, and P701 to P703 of worlds that come of each other: each thing is done that may be.
func TestKeepsCheck(t *testing.T) {
	r := rand.New(rand.NewPCG(7, 4))
	changed := map[int]int{}
	for range 150 {
		w := floorOf(t, r)
		for range 200 {
			seat, input := r.IntN(6)-1, r.IntN(13)-1
			was := twinOf(w)
			next := Do(w, seat, input)
			if want := done(w, seat, input); !same(next, want) {
				t.Fatalf("P701: input %d of seat %d: %v, gold %v, not %v, gold %v", input, seat, next.Items, next.Gold, want.Items, want.Gold)
			}
			if !same(w, next) {
				changed[input]++
			}
			switch r.IntN(12) {
			case 0:
				next.Items = Lay(next.Items, freePlaces(next, r)...)
			case 1:
				if r.IntN(5) == 0 {
					next = Sweep(next, seat)
				}
			default:
				goAnywhere(next, r)
			}
			if !Check(next) || !allowed(next) {
				t.Fatalf("P704: input %d of seat %d: %v becomes %v", input, seat, was.Items, next.Items)
			}
			if !same(w, was) {
				t.Fatalf("P2: input %d of seat %d changed the world that was handed in", input, seat)
			}
			w = next
		}
	}
	for _, input := range []int{api.Pick, api.Use, api.Wear, api.Drop, api.Buy} {
		if changed[input] < 100 {
			t.Errorf("P704: input %d did something %d times only", input, changed[input])
		}
	}
	if len(changed) != 5 {
		t.Errorf("P701: other inputs did something: %v", changed)
	}
}

// TestSweepKeepsCheck: in worlds with as much in them as may be.
func TestSweepKeepsCheck(t *testing.T) {
	w := plenty()
	for seat := -1; seat <= api.Seats; seat++ {
		w = Sweep(w, seat)
		if !Check(w) {
			t.Errorf("P704: Sweep of seat %d: %v", seat, w.Items)
		}
	}
}

// TestLayKeepsCheck: of a floor's items into a world whose bags are full, and into one with no row left.
func TestLayKeepsCheck(t *testing.T) {
	w := plenty()
	w.Items = slices.DeleteFunc(w.Items, func(i api.Item) bool { return i.Where == api.WShop })
	w.Items = append(w.Items, make([]api.Item, api.MaxItems-len(w.Items))...)
	more := []api.Item{shelf(api.IPotion, 0), shelf(api.IMail, 1), shelf(api.ISword, 2)}
	for x := 6; x < 24; x++ {
		for y := 5; y < 16; y++ {
			more = append(more, cell(1+(x+y)%4, x, y))
		}
	}
	for n := range more {
		v := w
		if v.Items = Lay(w.Items, more[:n]...); !Check(v) || !slices.Equal(v.Items, laid(w.Items, more[:n])) {
			t.Errorf("P704: Lay of %d more: %v", n, v.Items)
		}
	}
}

// What holds everywhere.

// spare is a world whose lists have spare room, with numbers in it.
func spare(w api.World) (api.World, api.World) {
	whole := w
	whole.Cells = append(slices.Clone(w.Cells), 9, 8, 7)
	whole.Ents = append(slices.Clone(w.Ents), api.Ent{Kind: 9, HP: 8}, api.Ent{Gen: 7})
	whole.Items = append(slices.Clone(w.Items), make([]api.Item, 20)...)
	w.Cells, w.Ents, w.Items = whole.Cells[:len(w.Cells)], whole.Ents[:len(w.Ents)], whole.Items[:len(w.Items)]
	return w, whole
}

// room is a world with its lists' spare room.
func room(w api.World) api.World {
	w.Cells, w.Ents, w.Items = w.Cells[:cap(w.Cells)], w.Ents[:cap(w.Ents)], w.Items[:cap(w.Items)]
	return w
}

// spoil changes all that a world's lists hold.
func spoil(w api.World) {
	w = room(w)
	for i := range w.Cells {
		w.Cells[i] ^= 0x55
	}
	for i := range w.Ents {
		w.Ents[i].HP -= 1000
	}
	for i := range w.Items {
		w.Items[i].A -= 1000
	}
}

// TestWorldStays is P2 of Do, Sweep, Bonus and Check: what is handed in stays, its spare room too, and an answer is apart from it and from others.
func TestWorldStays(t *testing.T) {
	few := world(full()...)
	few.Items, few.Ents, few.Cells = few.Items[:6], few.Ents[:7], few.Cells[:30]
	for i, start := range []api.World{plenty(), world(others()...), world(), few, {}} {
		for input := -1; input <= 11; input++ {
			for _, seat := range []int{-1, 0, 1, me, 3, 4} {
				w, whole := spare(start)
				was := twinOf(whole)
				answers := []api.World{Do(w, seat, input), Sweep(w, seat), Do(w, seat, input)}
				Bonus(w, seat)
				Check(w)
				if !same(whole, was) {
					t.Fatalf("P2: world %d, input %d of seat %d: it was changed", i, input, seat)
				}
				all := append(answers, whole)
				for k := range all {
					var were []api.World
					for _, v := range all {
						were = append(were, twinOf(room(v)))
					}
					spoil(all[k])
					for j, v := range all {
						if j != k && !same(room(v), were[j]) {
							t.Fatalf("P2: world %d, input %d of seat %d: %d and %d share memory", i, input, seat, k, j)
						}
					}
				}
			}
		}
	}
}

// TestItemsStay is P2 of Lay: the list and what is laid, and of one list that holds both.
func TestItemsStay(t *testing.T) {
	for _, n := range []int{0, 1, 5, 39, 40, 41, 60} {
		for _, m := range []int{0, 1, 7, 50} {
			list, more := make([]api.Item, n+9), some(m+9)
			for i := range list {
				if i%3 == 0 {
					list[i] = bag(1+i%3, i%4)
				}
			}
			wasList, wasMore := slices.Clone(list), slices.Clone(more)
			got, again := Lay(list[:n], more[:m]...), Lay(list[:n], more[:m]...)
			if !slices.Equal(list, wasList) || !slices.Equal(more, wasMore) {
				t.Fatalf("P2: Lay of %d into %d rows changed what was handed in", m, n)
			}
			kept := slices.Clone(again)
			for i := range got[:cap(got)] {
				got[:cap(got)][i] = api.Item{Kind: 99}
			}
			if !slices.Equal(list, wasList) || !slices.Equal(more, wasMore) || !slices.Equal(again, kept) {
				t.Fatalf("P2: Lay of %d into %d rows shares memory", m, n)
			}
		}
	}
	both := with(make([]api.Item, 3), some(4)...)
	was := slices.Clone(both)
	if got := Lay(both[:4], both[2:]...); !slices.Equal(got, laid(was[:4], was[2:])) || !slices.Equal(both, was) {
		t.Errorf("P2: Lay of a list's own items: %v", got)
	}
}

// TestNoListIsAnEmptyOne is P2 of no list.
func TestNoListIsAnEmptyOne(t *testing.T) {
	none, empty := world(), world()
	none.Cells, none.Ents, none.Items = nil, nil, nil
	empty.Cells, empty.Ents, empty.Items = []byte{}, []api.Ent{}, []api.Item{}
	for input := range 11 {
		for _, w := range []api.World{none, empty} {
			if got := Do(w, me, input); !same(got, empty) {
				t.Errorf("P2: Do of no lists: %+v", got)
			}
			if got := Sweep(w, me); !same(got, empty) {
				t.Errorf("P2: Sweep of no lists: %+v", got)
			}
		}
	}
	// A hero among no cells and no items: nothing to do, and no panic.
	w := world()
	w.Cells, w.Items = nil, nil
	for input := range 11 {
		if got := Do(w, me, input); !same(got, w) {
			t.Errorf("P701: input %d with no items: %+v", input, got)
		}
	}
}

// TestAnyWorld is P1 and P2 of worlds that may not be: every call ends and leaves what it was given.
func TestAnyWorld(t *testing.T) {
	r := rand.New(rand.NewPCG(7, 9))
	num := func() int {
		return []int{r.IntN(6) - 1, r.IntN(6) - 1, r.IntN(6) - 1, r.IntN(30), math.MaxInt - r.IntN(7), math.MinInt + r.IntN(7), int(r.Uint64())}[r.IntN(7)]
	}
	for range 20000 {
		w := api.World{Seed: int64(r.Uint64()), Frame: num(), Floor: num(), State: num()}
		w.Cells = make([]byte, r.IntN(400))
		for i := range w.Cells {
			w.Cells[i] = byte(r.IntN(7))
		}
		for range r.IntN(40) {
			w.Ents = append(w.Ents, api.Ent{Kind: num(), Gen: num(), Seat: num(), X: num(), Y: num(), HP: num(), Max: num(), Poison: num()})
		}
		for range r.IntN(50) {
			w.Items = append(w.Items, api.Item{Kind: num(), Where: num(), A: num(), B: num()})
		}
		for seat := range w.Gold {
			w.Gold[seat] = num()
		}
		was := twinOf(w)
		seat, input := num(), r.IntN(11)
		next := Do(w, seat, input)
		Sweep(next, seat)
		Bonus(w, num())
		Check(w)
		Lay(w.Items, next.Items...)
		if !same(w, was) {
			t.Fatalf("P2: input %d of seat %d changed a world that may not be", input, seat)
		}
		if len(next.Items) != len(w.Items) || len(next.Ents) != len(w.Ents) || !slices.Equal(next.Cells, w.Cells) {
			t.Fatalf("P701: input %d of seat %d: other lists", input, seat)
		}
	}
}

// TestSameAlways is P3, asked by many at once.
func TestSameAlways(t *testing.T) {
	w := plenty()
	var wants []api.World
	for input := range 11 {
		wants = append(wants, Do(w, 3, input))
	}
	swept, laidOut := Sweep(w, me), Lay(w.Items, some(50)...)
	var all sync.WaitGroup
	for range 8 {
		all.Go(func() {
			for range 30 {
				for input, want := range wants {
					if got := Do(w, 3, input); !same(got, want) {
						t.Errorf("P3: input %d: %v", input, got.Items)
					}
				}
				atk, def := Bonus(w, 1)
				if !same(Sweep(w, me), swept) || !slices.Equal(Lay(w.Items, some(50)...), laidOut) || !Check(w) || atk != 3 || def != 2 {
					t.Error("P3: another answer")
				}
			}
		})
	}
	all.Wait()
}
