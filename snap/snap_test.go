package snap

import (
	"encoding/hex"
	"math"
	"slices"
	"strings"
	"testing"

	"adit/api"
	"adit/crawl"
	"adit/ents"
)

// Rows of sample.
const (
	rat   = 1
	hero2 = 3 // of seat 2
	orc   = 5
	hero0 = 8
	mage  = 9
	hero3 = 20
	rat2  = 21
	hero1 = 31
	free  = 2 // with a Gen
	blank = 0 // all zero
)

func at(x, y int) int { return y*api.Wide + x }

// sample is a world that may be, with all kinds in it: a room from (1, 1) to (8, 4).
func sample() api.World {
	w := api.World{Seed: -77, Frame: 1234, Floor: 2, State: api.Running, Gold: [api.Seats]int{0, 258, 999, 7}}
	w.Cells = make([]byte, api.Cells)
	for y := 1; y <= 4; y++ {
		for x := 1; x <= 8; x++ {
			w.Cells[at(x, y)] = api.CFloor
		}
	}
	w.Cells[at(1, 1)], w.Cells[at(4, 2)], w.Cells[at(5, 3)], w.Cells[at(8, 4)] = api.CUp, api.CDoor, api.CShop, api.CDown
	w.Ents = make([]api.Ent, api.MaxEnts)
	w.Ents[free].Gen, w.Ents[30].Gen = 17, 255
	w.Ents[rat] = api.Ent{Kind: api.ERat, Gen: 255, X: 2, Y: 1, HP: 1, Max: 4, Atk: 2, Poison: 1, Stun: 9}
	w.Ents[hero2] = api.Ent{Kind: api.EHero, Gen: 1, Seat: 2, X: 1, Y: 1, HP: 20, Max: 20, Atk: 5, Def: 1, Poison: 9, Stun: 2}
	w.Ents[orc] = api.Ent{Kind: api.EOrc, X: 4, Y: 2, HP: 9, Max: 9, Atk: 4, Def: 1}
	w.Ents[hero0] = api.Ent{Kind: api.EHero, Gen: 128, X: 5, Y: 3, HP: 1, Max: 20, Atk: 5, Def: 1}
	w.Ents[mage] = api.Ent{Kind: api.EMage, Gen: 3, X: 8, Y: 4, HP: 5, Max: 6, Atk: 3}
	w.Ents[hero3] = api.Ent{Kind: api.EHero, Gen: 4, Seat: 3, X: 6, Y: 1, HP: 10, Max: 20, Atk: 5, Def: 1, Stun: 3}
	w.Ents[rat2] = api.Ent{Kind: api.ERat, Gen: 5, X: 1, Y: 4, HP: 4, Max: 4, Atk: 2}
	w.Ents[hero1] = api.Ent{Kind: api.EHero, Gen: 6, Seat: 1, X: 7, Y: 2, HP: 19, Max: 20, Atk: 5, Def: 1}
	w.Items = make([]api.Item, api.MaxItems)
	copy(w.Items[1:], []api.Item{
		{Kind: api.IPotion, Where: api.WCell, A: 1, B: 1}, {Kind: api.IGold, Where: api.WCell, A: 8, B: 3}, {},
		{Kind: api.ISword, Where: api.WBag, A: 0, B: 0}, {Kind: api.IPotion, Where: api.WBag, A: 3, B: 3},
		{Kind: api.ISword, Where: api.WWorn, A: 2, B: 0}, {Kind: api.IMail, Where: api.WWorn, A: 2, B: 1}, {},
		{Kind: api.IMail, Where: api.WShop, A: 2},
	})
	w.Items[39] = api.Item{Kind: api.IMail, Where: api.WCell, A: 4, B: 2}
	return w
}

// plain is a world without walls, the stairs at (3, 2) and (5, 4), with nobody in it and nothing.
func plain() api.World {
	w := api.World{Floor: 1, Cells: slices.Repeat([]byte{api.CFloor}, api.Cells), Ents: make([]api.Ent, api.MaxEnts), Items: make([]api.Item, api.MaxItems)}
	w.Cells[at(3, 2)], w.Cells[at(5, 4)] = api.CUp, api.CDown
	return w
}

// fresh is one of a kind at a place.
func fresh(kind, x, y int) api.Ent {
	e := ents.Stats(kind)
	e.X, e.Y = x, y
	return e
}

// same is all of Same, by a way of its own.
func same(a, b api.World) bool {
	return a.Seed == b.Seed && a.Frame == b.Frame && a.Floor == b.Floor && a.State == b.State && a.Gold == b.Gold &&
		slices.Equal(a.Cells, b.Cells) && slices.Equal(a.Ents, b.Ents) && slices.Equal(a.Items, b.Items)
}

func twinOf(w api.World) api.World {
	w.Cells, w.Ents, w.Items = slices.Clone(w.Cells), slices.Clone(w.Ents), slices.Clone(w.Items)
	return w
}

// but is a world with something else in it.
func but(w api.World, change func(v *api.World)) api.World {
	w = twinOf(w)
	change(&w)
	return w
}

// checkRefused holds what P1101 to P1103 say of a world that Check answers so.
func checkRefused(t *testing.T, what string, w api.World, want api.Errno) {
	t.Helper()
	was := twinOf(w)
	if err := Check(w); err != want {
		t.Errorf("P1101: %s: %v, not %v", what, err, want)
	}
	b, err := Encode(w)
	if err != want || want != api.OK && len(b) != 0 || want == api.OK && len(b) != 918 {
		t.Errorf("P1102: Encode: %s: %d bytes, %v, not %v", what, len(b), err, want)
	}
	if x := Digest(w); (x == 0) != (want != api.OK) {
		t.Errorf("P1103: Digest: %s: %x", what, x)
	}
	if again := Check(w); again != want {
		t.Errorf("P3: %s: Check again: %v", what, again)
	}
	if !same(w, was) {
		t.Errorf("P2: %s: the world that was handed in is another one", what)
	}
}

// P1101.

func TestCheckAllows(t *testing.T) {
	for what, w := range map[string]api.World{
		"sample": sample(), "plain": plain(), "a beginning": crawl.New(7), "a first frame": crawl.Step(crawl.New(-3), api.Acts{{Spawn: true}, {}, {}, {Spawn: true}}),
		"won":                   but(sample(), func(w *api.World) { w.State = api.Won }),
		"lost":                  but(sample(), func(w *api.World) { w.State = api.Lost }),
		"no shop, no door":      but(sample(), func(w *api.World) { w.Cells[at(4, 2)], w.Cells[at(5, 3)] = api.CFloor, api.CFloor }),
		"two shops":             but(sample(), func(w *api.World) { w.Cells[at(6, 3)] = api.CShop }),
		"stairs out of reach":   but(sample(), func(w *api.World) { w.Cells[at(1, 1)], w.Cells[at(20, 14)] = api.CFloor, api.CUp }),
		"heroes at the corners": but(plain(), corners),
		"all rows taken":        but(plain(), crowd),
	} {
		checkRefused(t, what, w, api.OK)
	}
}

// corners puts a hero into each corner, the first one behind a free row, which stands nowhere, though its place is (0, 0).
func corners(w *api.World) {
	for seat := range api.Seats {
		w.Ents[1+2*seat] = fresh(api.EHero, seat%2*23, seat/2*15)
		w.Ents[1+2*seat].Seat = seat
	}
}

// crowd fills all rows with monsters.
func crowd(w *api.World) {
	for n := range w.Ents {
		w.Ents[n] = fresh(api.ERat+n%3, n%24, 5+n/24)
	}
}

// number is one of a world, where Check wants it to be from least to most.
type number struct {
	name        string
	of          func(w *api.World) *int
	least, most int
	want        api.Errno
}

// checkNumber holds one number at both ends of its range, and beyond each: by one, far, and by as much as a byte or two of it would not show.
func checkNumber(t *testing.T, base api.World, n number) {
	t.Helper()
	set := func(v int) api.World { return but(base, func(w *api.World) { *n.of(w) = v }) }
	for _, v := range []int{n.least, n.most, (n.least + n.most) / 2} {
		checkRefused(t, n.name, set(v), api.OK)
	}
	for _, v := range []int{n.least - 1, n.most + 1, math.MinInt, math.MaxInt, n.least + 1<<32, n.most - 1<<32, n.least - 256, n.least - 1<<16} {
		checkRefused(t, n.name, set(v), n.want)
	}
	if n.most < 256 {
		checkRefused(t, n.name, set(n.least+256), n.want)
	}
}

func TestCheckHead(t *testing.T) {
	for _, n := range []number{
		{"Frame", func(w *api.World) *int { return &w.Frame }, 0, 1<<30 - 1, api.ErrArg},
		{"Floor", func(w *api.World) *int { return &w.Floor }, 1, 3, api.ErrArg},
		{"State", func(w *api.World) *int { return &w.State }, 0, 2, api.ErrArg},
		{"Gold 0", func(w *api.World) *int { return &w.Gold[0] }, 0, 999, api.ErrArg},
		{"Gold 1", func(w *api.World) *int { return &w.Gold[1] }, 0, 999, api.ErrArg},
		{"Gold 2", func(w *api.World) *int { return &w.Gold[2] }, 0, 999, api.ErrArg},
		{"Gold 3", func(w *api.World) *int { return &w.Gold[3] }, 0, 999, api.ErrArg},
	} {
		checkNumber(t, sample(), n)
		checkNumber(t, plain(), n)
	}
	for _, seed := range seeds {
		checkRefused(t, "any seed", but(sample(), func(w *api.World) { w.Seed = seed }), api.OK)
	}
}

// seeds are negative and great ones too.
var seeds = []int64{0, 1, -1, 255, 256, -256, 1 << 32, -1 << 32, 0x0123456789ABCDEF, math.MaxInt64, math.MinInt64, math.MinInt64 + 1}

func TestCheckLists(t *testing.T) {
	for _, base := range []api.World{sample(), plain()} {
		for what, change := range map[string]func(w *api.World){
			"a cell too few":     func(w *api.World) { w.Cells = w.Cells[:383] },
			"a cell too many":    func(w *api.World) { w.Cells = append(w.Cells, api.CWall) },
			"no cells":           func(w *api.World) { w.Cells = nil },
			"an entity too few":  func(w *api.World) { w.Ents = w.Ents[:31] },
			"an entity too many": func(w *api.World) { w.Ents = append(w.Ents, api.Ent{}) },
			"no entities":        func(w *api.World) { w.Ents = nil },
			"an item too few":    func(w *api.World) { w.Items = w.Items[:39] },
			"an item too many":   func(w *api.World) { w.Items = append(w.Items, api.Item{}) },
			"no items":           func(w *api.World) { w.Items = []api.Item{} },
			"one list's row in another": func(w *api.World) {
				w.Cells, w.Ents, w.Items = w.Cells[:383], append(w.Ents, api.Ent{}), append(w.Items, api.Item{})
			},
		} {
			checkRefused(t, what, but(base, change), api.ErrMany)
		}
	}
	checkRefused(t, "no world", api.World{}, api.ErrArg)
	checkRefused(t, "a floor alone", api.World{Floor: 1}, api.ErrMany)
}

func TestCheckCells(t *testing.T) {
	base := sample()
	for cell := range base.Cells {
		for _, kind := range []byte{6, 7, 8, 127, 128, 200, 255} {
			checkRefused(t, "a cell above CShop", but(base, func(w *api.World) { w.Cells[cell] = kind }), api.ErrKind)
		}
		for _, kind := range []byte{api.CUp, api.CDown} {
			if base.Cells[cell] != kind {
				checkRefused(t, "two of a stair, or one that took the other's place", but(base, func(w *api.World) { w.Cells[cell] = kind }), api.ErrNone)
			}
		}
	}
	up, down := at(1, 1), at(8, 4)
	for _, kind := range []byte{api.CWall, api.CFloor, api.CDoor, api.CShop} {
		checkRefused(t, "no CUp", but(base, func(w *api.World) { w.Cells[up] = kind }), api.ErrNone)
		checkRefused(t, "no CDown", but(base, func(w *api.World) { w.Cells[down] = kind }), api.ErrNone)
		checkRefused(t, "neither", but(base, func(w *api.World) { w.Cells[up], w.Cells[down] = kind, kind }), api.ErrNone)
	}
	checkRefused(t, "two of each", but(base, func(w *api.World) { w.Cells[at(2, 2)], w.Cells[at(3, 2)] = api.CUp, api.CDown }), api.ErrNone)
	checkRefused(t, "they change places", but(base, func(w *api.World) { w.Cells[up], w.Cells[down] = api.CDown, api.CUp }), api.OK)
}

// fields are the numbers of an entity but its Kind and its Gen, by their names.
func fields(e *api.Ent) map[string]*int {
	return map[string]*int{"Seat": &e.Seat, "X": &e.X, "Y": &e.Y, "HP": &e.HP, "Max": &e.Max, "Atk": &e.Atk, "Def": &e.Def, "Poison": &e.Poison, "Stun": &e.Stun}
}

// TestCheckEnts holds each number of each row of sample that Check wants in a range of its own.
func TestCheckEnts(t *testing.T) {
	base := sample()
	for n, e := range base.Ents {
		of := func(name string) func(w *api.World) *int {
			return func(w *api.World) *int { return fields(&w.Ents[n])[name] }
		}
		checkNumber(t, base, number{"Gen", func(w *api.World) *int { return &w.Ents[n].Gen }, 0, 255, api.ErrBad})
		for _, kind := range []int{-1, 5, 6, 256, 257, 260, math.MaxInt, math.MinInt, 1 << 32} {
			checkRefused(t, "Kind", but(base, func(w *api.World) { w.Ents[n].Kind = kind }), api.ErrKind)
		}
		if e.Kind == api.ENone {
			for name := range fields(&e) {
				checkNumber(t, base, number{"of a free row: " + name, of(name), 0, 0, api.ErrBad})
			}
			continue
		}
		checkNumber(t, base, number{"HP", of("HP"), 1, e.Max, api.ErrBad})
		checkNumber(t, base, number{"Max", of("Max"), e.Max, e.Max, api.ErrBad})
		checkNumber(t, base, number{"Atk", of("Atk"), e.Atk, e.Atk, api.ErrBad})
		checkNumber(t, base, number{"Def", of("Def"), e.Def, e.Def, api.ErrBad})
		checkNumber(t, base, number{"Poison", of("Poison"), 0, 9, api.ErrBad})
		checkNumber(t, base, number{"Stun", of("Stun"), 0, 9, api.ErrBad})
		if e.Kind != api.EHero {
			checkNumber(t, base, number{"a monster's Seat", of("Seat"), 0, 0, api.ErrBad})
		}
	}
}

// TestCheckStats: those of ents.Stats, of each kind, and of no other kind.
func TestCheckStats(t *testing.T) {
	for kind := api.EHero; kind <= api.EMage; kind++ {
		for like := api.EHero; like <= api.EMage; like++ {
			w := plain()
			w.Ents[4] = fresh(like, 7, 7)
			w.Ents[4].Kind = kind
			want := api.ErrBad
			if kind == like {
				want = api.OK
			}
			checkRefused(t, "the stats of another kind", w, want)
			w.Ents[4].HP = 1
			checkRefused(t, "the stats of another kind, HP 1", w, want)
		}
		for _, name := range []string{"Max", "Atk", "Def"} {
			w := plain()
			w.Ents[4] = fresh(kind, 7, 7)
			checkNumber(t, w, number{name, func(w *api.World) *int { return fields(&w.Ents[4])[name] }, *fields(&w.Ents[4])[name], *fields(&w.Ents[4])[name], api.ErrBad})
		}
		w := plain()
		w.Ents[4] = fresh(kind, 7, 7)
		w.Ents[4].HP, w.Ents[4].Max = w.Ents[4].HP+1, w.Ents[4].Max+1
		checkRefused(t, "HP is Max, which is too much", w, api.ErrBad)
	}
	checkRefused(t, "a free row that was a rat", but(sample(), func(w *api.World) { w.Ents[rat].Kind = api.ENone }), api.ErrBad)
	checkRefused(t, "a rat that is only that", but(sample(), func(w *api.World) { w.Ents[blank].Kind = api.ERat }), api.ErrBad)
}

// TestCheckPlaces: all stand on cells of their own that can be walked on.
func TestCheckPlaces(t *testing.T) {
	for kind := api.EHero; kind <= api.EMage; kind++ {
		w := plain()
		w.Ents[4] = fresh(kind, 7, 7)
		checkNumber(t, w, number{"X", func(w *api.World) *int { return &w.Ents[4].X }, 0, 23, api.ErrBad})
		checkNumber(t, w, number{"Y", func(w *api.World) *int { return &w.Ents[4].Y }, 0, 15, api.ErrBad})
		base := sample()
		base.Ents = make([]api.Ent, api.MaxEnts)
		for cell, k := range base.Cells {
			want := api.OK
			if k == api.CWall {
				want = api.ErrBad
			}
			checkRefused(t, "on a cell", but(base, func(w *api.World) { w.Ents[9] = fresh(kind, cell%24, cell/24) }), want)
		}
		// The numbers of these are those of cells, but there are no such cells.
		for _, p := range [][2]int{{24, 0}, {-1, 1}, {25, 0}, {-23, 2}, {-1, 16}, {7 + 24, 6}, {7 - 24, 8}} {
			checkRefused(t, "beside the floor", but(w, func(w *api.World) { w.Ents[4].X, w.Ents[4].Y = p[0], p[1] }), api.ErrBad)
		}
	}
}

// TestCheckTwoOnACell: whoever both are, and whichever rows they have.
func TestCheckTwoOnACell(t *testing.T) {
	base := sample()
	for n, e := range base.Ents {
		for m, o := range base.Ents {
			if n != m && e.Kind != api.ENone && o.Kind != api.ENone {
				checkRefused(t, "two on one cell", but(base, func(w *api.World) { w.Ents[n].X, w.Ents[n].Y = o.X, o.Y }), api.ErrBad)
			}
		}
	}
	first := plain()
	first.Ents[blank], first.Ents[31] = fresh(api.EOrc, 0, 0), fresh(api.ERat, 0, 0)
	checkRefused(t, "two on cell 0, the first row and the last", first, api.ErrBad)
	for n := range first.Ents {
		w := plain()
		w.Ents[n] = fresh(api.EHero, 0, 0)
		checkRefused(t, "one on cell 0 among free rows", w, api.OK)
	}
	across := plain()
	across.Ents[1], across.Ents[2], across.Ents[3] = fresh(api.ERat, 2, 3), fresh(api.ERat, 3, 2), fresh(api.ERat, 2, 2)
	checkRefused(t, "in one row, in one column", across, api.OK)
}

func TestCheckSeats(t *testing.T) {
	alone := plain()
	alone.Ents[6] = fresh(api.EHero, 9, 9)
	checkNumber(t, alone, number{"a hero's Seat", func(w *api.World) *int { return &w.Ents[6].Seat }, 0, 3, api.ErrBad})
	base := sample()
	heroes := []int{hero2, hero0, hero3, hero1}
	for _, n := range heroes {
		checkRefused(t, "seat 4", but(base, func(w *api.World) { w.Ents[n].Seat = 4 }), api.ErrBad)
		checkRefused(t, "seat -1", but(base, func(w *api.World) { w.Ents[n].Seat = -1 }), api.ErrBad)
		for _, m := range heroes {
			if n != m {
				checkRefused(t, "a seat of another hero", but(base, func(w *api.World) { w.Ents[n].Seat = w.Ents[m].Seat }), api.ErrBad)
				checkRefused(t, "seats changed", but(base, func(w *api.World) { w.Ents[n].Seat, w.Ents[m].Seat = w.Ents[m].Seat, w.Ents[n].Seat }), api.OK)
			}
		}
	}
	// The monsters ahead, and the free rows, have 0 as their Seat, but are no heroes.
	w := plain()
	w.Ents[1], w.Ents[2], w.Ents[3] = fresh(api.ERat, 1, 1), fresh(api.EMage, 1, 2), fresh(api.EHero, 1, 3)
	checkRefused(t, "a hero of seat 0 behind monsters", w, api.OK)
}

// TestCheckItems: each fault that chapter 7 names.
func TestCheckItems(t *testing.T) {
	for n := range api.MaxItems {
		for what, l := range map[string][]api.Item{
			"no kind":              {{Where: api.WBag, A: 1, B: 1}, {Kind: 5, Where: api.WBag, A: 1, B: 1}, {Kind: -1, Where: api.WCell, A: 2, B: 2}, {Kind: 256, Where: api.WCell, A: 2, B: 2}},
			"nowhere":              {{Kind: api.IPotion}, {Kind: api.IPotion, Where: 5}, {Kind: api.IPotion, Where: -1}, {Kind: 257, Where: 256}},
			"not all zero":         {{A: 1}, {B: 1}, {Where: api.WCell}, {B: 256}},
			"no cell to walk on":   {{Kind: api.IGold, Where: api.WCell}, {Kind: api.IGold, Where: api.WCell, A: 24, B: 1}, {Kind: api.IGold, Where: api.WCell, A: -1, B: 2}, {Kind: api.IGold, Where: api.WCell, A: 1, B: 16}},
			"no seat, no slot":     {{Kind: api.IPotion, Where: api.WBag, A: 4}, {Kind: api.IPotion, Where: api.WBag, A: -1}, {Kind: api.IPotion, Where: api.WBag, A: 1, B: 4}, {Kind: api.IPotion, Where: api.WBag, A: 1, B: -1}},
			"gold":                 {{Kind: api.IGold, Where: api.WBag, A: 1, B: 1}, {Kind: api.IGold, Where: api.WShop, A: 0}, {Kind: api.IGold, Where: api.WWorn, A: 1}},
			"not to be worn there": {{Kind: api.IPotion, Where: api.WWorn, A: 1}, {Kind: api.ISword, Where: api.WWorn, A: 1, B: 1}, {Kind: api.IMail, Where: api.WWorn, A: 1}, {Kind: api.ISword, Where: api.WWorn, A: 4}},
			"not on the shelf":     {{Kind: api.IPotion, Where: api.WShop, A: 3}, {Kind: api.IPotion, Where: api.WShop, A: -1}, {Kind: api.IPotion, Where: api.WShop, A: 0, B: 1}},
		} {
			for _, item := range l {
				checkRefused(t, what, but(sample(), func(w *api.World) { w.Items[n] = item }), api.ErrBad)
			}
		}
		for m, item := range sample().Items {
			if n != m && item != (api.Item{}) {
				checkRefused(t, "two in one place", but(sample(), func(w *api.World) { w.Items[n] = item }), api.ErrBad)
			}
		}
	}
}

// fault is one that Check finds in a world.
type fault struct {
	name  string
	want  api.Errno
	spoil func(w *api.World)
}

// faults are some, in the order in which the chapter names them; those of entities in the order of rows.
func faults() []fault {
	return []fault{
		{"Frame", api.ErrArg, func(w *api.World) { w.Frame = 1 << 30 }},
		{"Floor", api.ErrArg, func(w *api.World) { w.Floor = 4 }},
		{"State", api.ErrArg, func(w *api.World) { w.State = 3 }},
		{"Gold", api.ErrArg, func(w *api.World) { w.Gold[3] = 1000 }},
		{"cells", api.ErrMany, func(w *api.World) { w.Cells = w.Cells[:383] }},
		{"entities", api.ErrMany, func(w *api.World) { w.Ents = append(w.Ents, api.Ent{}) }},
		{"items", api.ErrMany, func(w *api.World) { w.Items = w.Items[1:] }},
		{"a cell", api.ErrKind, func(w *api.World) { w.Cells[382] = 6 }},
		{"two CUp", api.ErrNone, func(w *api.World) { w.Cells[0] = api.CUp }},
		{"no CDown", api.ErrNone, func(w *api.World) { w.Cells[at(8, 4)] = api.CFloor }},
		{"row 1: Kind", api.ErrKind, func(w *api.World) { w.Ents[rat].Kind = 5 }},
		{"row 1: Gen", api.ErrBad, func(w *api.World) { w.Ents[rat].Gen = 256 }},
		{"row 2: a free one's Stun", api.ErrBad, func(w *api.World) { w.Ents[free].Stun = 1 }},
		{"row 3: Kind", api.ErrKind, func(w *api.World) { w.Ents[hero2].Kind = -1 }},
		{"row 3: HP", api.ErrBad, func(w *api.World) { w.Ents[hero2].HP = 21 }},
		{"row 5: its place", api.ErrBad, func(w *api.World) { w.Ents[orc].X = 0 }},
		{"row 5: Seat", api.ErrBad, func(w *api.World) { w.Ents[orc].Seat = 1 }},
		{"row 8: Kind", api.ErrKind, func(w *api.World) { w.Ents[hero0].Kind = 6 }},
		{"row 8: Atk", api.ErrBad, func(w *api.World) { w.Ents[hero0].Atk = 4 }},
		{"row 9: Kind", api.ErrKind, func(w *api.World) { w.Ents[mage].Kind = 5 }},
		{"row 20: Poison", api.ErrBad, func(w *api.World) { w.Ents[hero3].Poison = 10 }},
		{"row 21: Kind", api.ErrKind, func(w *api.World) { w.Ents[rat2].Kind = -9 }},
		{"an item", api.ErrBad, func(w *api.World) { w.Items[20] = api.Item{A: 1} }},
	}
}

// TestCheckFirstOfSeveral is P6: of several faults the one that is named first, of rows the first one's.
func TestCheckFirstOfSeveral(t *testing.T) {
	l := faults()
	for i, first := range l {
		checkRefused(t, first.name, but(sample(), first.spoil), first.want)
		for _, second := range l[i+1:] {
			w := but(but(sample(), second.spoil), first.spoil)
			checkRefused(t, first.name+", and "+second.name, w, first.want)
		}
		all := twinOf(sample())
		for _, f := range slices.Backward(l[i:]) {
			f.spoil(&all)
		}
		checkRefused(t, first.name+", and all behind it", all, first.want)
	}
}

// P1102.

// TestBytesWrittenOut: the bytes of sample, by hand.
func TestBytesWrittenOut(t *testing.T) {
	cells := make([]string, api.High)
	for y := range cells {
		cells[y] = strings.Repeat("00", 24)
	}
	cells[1] = "00 03 01 01 01 01 01 01 01" + strings.Repeat("00", 15)
	cells[2] = "00 01 01 01 02 01 01 01 01" + strings.Repeat("00", 15)
	cells[3] = "00 01 01 01 01 05 01 01 01" + strings.Repeat("00", 15)
	cells[4] = "00 01 01 01 01 01 01 01 04" + strings.Repeat("00", 15)
	rows := slices.Repeat([]string{"00 00 00 00 00 00 00 00 00 00 00"}, 32)
	rows[1] = "02 FF 00 02 01 01 04 02 00 01 09"
	rows[2] = "00 11 00 00 00 00 00 00 00 00 00"
	rows[3] = "01 01 02 01 01 14 14 05 01 09 02"
	rows[5] = "03 00 00 04 02 09 09 04 01 00 00"
	rows[8] = "01 80 00 05 03 01 14 05 01 00 00"
	rows[9] = "04 03 00 08 04 05 06 03 00 00 00"
	rows[20] = "01 04 03 06 01 0A 14 05 01 00 03"
	rows[21] = "02 05 00 01 04 04 04 02 00 00 00"
	rows[30] = "00 FF 00 00 00 00 00 00 00 00 00"
	rows[31] = "01 06 01 07 02 13 14 05 01 00 00"
	items := slices.Repeat([]string{"00 00 00 00"}, 40)
	copy(items[1:], []string{"01 01 01 01", "04 01 08 03", "00 00 00 00", "02 02 00 00", "01 02 03 03", "02 03 02 00", "03 03 02 01", "00 00 00 00", "03 04 02 00"})
	items[39] = "03 01 04 02"
	text := "FF FF FF FF FF FF FF B3 00 00 04 D2 02 00 00 00 01 02 03 E7 00 07" + strings.Join(cells, "") + strings.Join(rows, "") + strings.Join(items, "")
	want, err := hex.DecodeString(strings.ReplaceAll(text, " ", ""))
	if err != nil || len(want) != 918 || Size != 918 {
		t.Fatalf("P1102: %d bytes, Size %d, %v", len(want), Size, err)
	}
	got, errno := Encode(sample())
	if errno != api.OK || !slices.Equal(got, want) {
		t.Errorf("P1102: Encode: %v, %X, not %X", errno, got, want)
	}
	w, errno := Decode(want)
	if errno != api.OK || !same(w, sample()) {
		t.Errorf("P1102: Decode: %v, %+v", errno, w)
	}
}

// TestBytesOfHeads: the numbers of more than one byte, the highest first.
func TestBytesOfHeads(t *testing.T) {
	for _, x := range []struct {
		seed  int64
		frame int
		state int
		gold  [4]int
		want  string
	}{
		{0, 0, 0, [4]int{}, "00000000 00000000 00000000 01 00 0000 0000 0000 0000"},
		{1, 1, 1, [4]int{1, 2, 3, 4}, "00000000 00000001 00000001 01 01 0001 0002 0003 0004"},
		{-2, 0x12345678, 2, [4]int{0, 258, 0, 999}, "FFFFFFFF FFFFFFFE 12345678 01 02 0000 0102 0000 03E7"},
		{0x0123456789ABCDEF, 1<<30 - 1, 0, [4]int{999, 256, 255, 512}, "01234567 89ABCDEF 3FFFFFFF 01 00 03E7 0100 00FF 0200"},
		{math.MaxInt64, 65536, 0, [4]int{0, 0, 0, 1}, "7FFFFFFF FFFFFFFF 00010000 01 00 0000 0000 0000 0001"},
		{math.MinInt64, 256, 0, [4]int{1, 0, 0, 0}, "80000000 00000000 00000100 01 00 0001 0000 0000 0000"},
	} {
		w := plain()
		w.Seed, w.Frame, w.State, w.Gold = x.seed, x.frame, x.state, x.gold
		b, err := Encode(w)
		if err != api.OK || hex.EncodeToString(b[:22]) != strings.ToLower(strings.ReplaceAll(x.want, " ", "")) {
			t.Fatalf("P1102: seed %d: %v, %x", x.seed, err, b)
		}
		if v, err := Decode(b); err != api.OK || !same(v, w) {
			t.Errorf("P1105: seed %d: %v, %+v", x.seed, err, v)
		}
	}
}

// checkBytesRefused holds that bytes say no world, and why.
func checkBytesRefused(t *testing.T, what string, b []byte, want api.Errno) {
	t.Helper()
	was := slices.Clone(b)
	w, err := Decode(b)
	if err != want || w.Cells != nil || w.Ents != nil || w.Items != nil || !same(w, api.World{}) {
		t.Errorf("P1102, P4: Decode: %s: %v, not %v; %+v", what, err, want, w)
	}
	if !slices.Equal(b, was) {
		t.Errorf("P2: Decode: %s: the bytes are others now", what)
	}
}

func TestDecodeOtherLengths(t *testing.T) {
	whole, _ := Encode(sample())
	checkBytesRefused(t, "none at all", nil, api.ErrCut)
	checkBytesRefused(t, "no byte", []byte{}, api.ErrCut)
	for n := range whole {
		checkBytesRefused(t, "some bytes too few", whole[:n], api.ErrCut)
		checkBytesRefused(t, "bytes that say nothing, and too few", make([]byte, n), api.ErrCut)
	}
	for _, n := range []int{1, 2, 22, 918, 1 << 16} {
		checkBytesRefused(t, "some bytes too many", append(slices.Clone(whole), make([]byte, n)...), api.ErrMore)
		checkBytesRefused(t, "bytes that say nothing, and too many", make([]byte, 918+n), api.ErrMore)
	}
	checkBytesRefused(t, "bytes that say nothing", make([]byte, 918), api.ErrArg)
	checkBytesRefused(t, "bytes of ones", slices.Repeat([]byte{255}, 918), api.ErrArg)
}

// TestDecodeRefuses: bytes that say a world that Check refuses, by its error.
func TestDecodeRefuses(t *testing.T) {
	const firstCell, firstEnt, firstItem = 22, 22 + 384, 22 + 384 + 32*11
	for _, x := range []struct {
		name string
		at   int
		b    []byte
		want api.Errno
	}{
		{"a great Frame", 8, []byte{0x40, 0, 0, 0}, api.ErrArg}, {"a Frame that would be below 0", 8, []byte{255, 255, 255, 255}, api.ErrArg},
		{"Floor 0", 12, []byte{0}, api.ErrArg}, {"Floor 4", 12, []byte{4}, api.ErrArg}, {"State 3", 13, []byte{3}, api.ErrArg},
		{"Gold 1000", 14, []byte{3, 0xE8}, api.ErrArg}, {"Gold 65535", 20, []byte{255, 255}, api.ErrArg},
		{"a cell 6", firstCell, []byte{6}, api.ErrKind}, {"a cell 255", firstCell + 383, []byte{255}, api.ErrKind},
		{"two CUp", firstCell + 383, []byte{api.CUp}, api.ErrNone}, {"no CDown", firstCell + at(8, 4), []byte{api.CFloor}, api.ErrNone},
		{"Kind 5", firstEnt, []byte{5}, api.ErrKind}, {"Kind 255", firstEnt + 31*11, []byte{255}, api.ErrKind},
		{"a free row's Stun", firstEnt + 10, []byte{1}, api.ErrBad}, {"Stun 10", firstEnt + hero1*11 + 10, []byte{10}, api.ErrBad},
		{"Poison 10", firstEnt + hero1*11 + 9, []byte{10}, api.ErrBad}, {"HP 0", firstEnt + hero1*11 + 5, []byte{0}, api.ErrBad},
		{"Seat 4", firstEnt + hero1*11 + 2, []byte{4}, api.ErrBad}, {"X 24", firstEnt + hero1*11 + 3, []byte{24}, api.ErrBad},
		{"an item nowhere", firstItem, []byte{1}, api.ErrBad}, {"an item of kind 5", firstItem + 39*4, []byte{5}, api.ErrBad},
		{"an item's B", firstItem + 39*4 + 3, []byte{16}, api.ErrBad},
	} {
		b, _ := Encode(sample())
		copy(b[x.at:], x.b)
		checkBytesRefused(t, x.name, b, x.want)
	}
}

// P1103.

func TestDigest(t *testing.T) {
	for what, w := range map[string]api.World{"sample": sample(), "plain": plain(), "a beginning": crawl.New(7)} {
		b, _ := Encode(w)
		if got, want := Digest(w), summed(b); got != want || got == 0 {
			t.Errorf("P1103: Digest of %s: %x, not %x", what, got, want)
		}
	}
	// Any other byte is another number, wherever it is.
	base := Digest(plain())
	for _, other := range []func(w *api.World){
		func(w *api.World) { w.Seed = 1 }, func(w *api.World) { w.Seed = math.MinInt64 }, func(w *api.World) { w.Frame = 1 }, func(w *api.World) { w.Floor = 2 },
		func(w *api.World) { w.State = 1 }, func(w *api.World) { w.Gold[3] = 1 }, func(w *api.World) { w.Cells[0] = 0 }, func(w *api.World) { w.Cells[383] = 0 },
		func(w *api.World) { w.Ents[0].Gen = 1 }, func(w *api.World) { w.Ents[31].Gen = 1 }, func(w *api.World) { w.Items[39] = api.Item{Kind: 1, Where: 1} },
	} {
		if Digest(but(plain(), other)) == base {
			t.Error("P1103: another world, the same digest")
		}
	}
	if x := Digest(api.World{}); x != 0 {
		t.Errorf("P1103: Digest of no world: %x", x)
	}
}

// differences make a world another one, in one thing each.
func differences() []func(w *api.World) {
	l := []func(w *api.World){
		func(w *api.World) { w.Seed++ }, func(w *api.World) { w.Seed ^= math.MinInt64 }, func(w *api.World) { w.Frame++ }, func(w *api.World) { w.Floor++ }, func(w *api.World) { w.State++ },
		func(w *api.World) { w.Frame += 1 << 32 },
	}
	for seat := range api.Seats {
		l = append(l, func(w *api.World) { w.Gold[seat]++ })
	}
	for cell := range api.Cells {
		l = append(l, func(w *api.World) { w.Cells[cell]++ })
	}
	for n := range api.MaxEnts {
		l = append(l, func(w *api.World) { w.Ents[n].Kind++ }, func(w *api.World) { w.Ents[n].Gen += 256 })
		for name := range fields(&api.Ent{}) {
			l = append(l, func(w *api.World) { *fields(&w.Ents[n])[name]-- })
		}
	}
	for n := range api.MaxItems {
		l = append(l, func(w *api.World) { w.Items[n].Kind++ }, func(w *api.World) { w.Items[n].Where++ }, func(w *api.World) { w.Items[n].A-- }, func(w *api.World) { w.Items[n].B += 256 })
	}
	return l
}

func TestSame(t *testing.T) {
	for _, base := range []api.World{sample(), plain(), crawl.New(3)} {
		if !Same(base, base) || !Same(base, twinOf(base)) {
			t.Error("P1103: a world is not the same as itself")
		}
		for i, other := range differences() {
			w := but(base, other)
			if Same(w, base) || Same(base, w) {
				t.Errorf("P1103: difference %d is not seen", i)
			}
			if !Same(w, twinOf(w)) {
				t.Errorf("P1103: difference %d, in both", i)
			}
		}
	}
}

// TestSameOtherLengths: one list is the beginning of the other, or there is none.
func TestSameOtherLengths(t *testing.T) {
	base := plain()
	for i, other := range []func(w *api.World){
		func(w *api.World) { w.Cells = w.Cells[:383] }, func(w *api.World) { w.Cells = append(w.Cells, 0) }, func(w *api.World) { w.Cells = nil },
		func(w *api.World) { w.Ents = w.Ents[:31] }, func(w *api.World) { w.Ents = append(w.Ents, api.Ent{}) }, func(w *api.World) { w.Ents = nil },
		func(w *api.World) { w.Items = w.Items[:39] }, func(w *api.World) { w.Items = append(w.Items, api.Item{}) }, func(w *api.World) { w.Items = nil },
		func(w *api.World) { w.Cells, w.Ents, w.Items = nil, nil, nil },
	} {
		w := but(base, other)
		if Same(w, base) || Same(base, w) || !Same(w, w) || !Same(w, twinOf(w)) {
			t.Errorf("P1103: lists of other lengths, %d", i)
		}
	}
	if none, empty := (api.World{}), (api.World{Cells: []byte{}, Ents: []api.Ent{}, Items: []api.Item{}}); !Same(none, empty) || !Same(empty, none) || !Same(none, none) {
		t.Error("P2: no list and an empty one are not the same")
	}
}

func TestTwin(t *testing.T) {
	short := sample()
	short.Cells, short.Ents, short.Items = short.Cells[:5], short.Ents[:4], short.Items[:3]
	for _, base := range []api.World{sample(), plain(), crawl.New(5), short, {}, {Seed: 3, Frame: -1, Ents: []api.Ent{{Kind: 77}}}} {
		w, whole := spare(base)
		was := twinOf(whole)
		v := Twin(w)
		if !same(v, base) || !same(w, base) {
			t.Fatalf("P1103: a twin is not the same: %+v, %+v", v, base)
		}
		for _, other := range differences()[:10] {
			other(&v)
		}
		if spoil(v); !same(w, base) || !same(whole, was) {
			t.Error("P1103: a world sees what is done to its twin")
		}
		v = Twin(w)
		if spoil(w); !same(v, base) {
			t.Error("P1103: a twin sees what is done to the world")
		}
	}
}

// spare is a world whose lists have spare room, with numbers in it; and that world with this room.
func spare(w api.World) (api.World, api.World) {
	whole := w
	whole.Cells = append(slices.Clone(w.Cells), 3, 4, 7)
	whole.Ents = append(slices.Clone(w.Ents), fresh(api.EHero, 1, 1), api.Ent{Gen: 9}, api.Ent{})
	whole.Items = append(slices.Clone(w.Items), api.Item{Kind: 1, Where: 1, A: 1, B: 1}, api.Item{}, api.Item{Kind: 9})
	w.Cells, w.Ents, w.Items = whole.Cells[:len(w.Cells)], whole.Ents[:len(w.Ents)], whole.Items[:len(w.Items)]
	return w, whole
}

// spoil overwrites all lists of a world, their spare room too.
func spoil(w api.World) {
	fill(w.Cells, 200)
	fill(w.Ents, api.Ent{Kind: -9})
	fill(w.Items, api.Item{Kind: -9})
}

// fill overwrites a list, its spare room too.
func fill[T any](l []T, with T) {
	l = l[:cap(l)]
	for i := range l {
		l[i] = with
	}
}

// P1104: Rows.

func TestRows(t *testing.T) {
	base := sample()
	for _, x := range []struct {
		name   string
		change func(w *api.World)
		want   []api.Row
	}{
		{"nothing", func(w *api.World) {}, nil},
		{"Seed", func(w *api.World) { w.Seed = math.MaxInt64 }, []api.Row{{Kind: api.RHead}}},
		{"Frame", func(w *api.World) { w.Frame++ }, []api.Row{{Kind: api.RHead}}},
		{"Floor", func(w *api.World) { w.Floor++ }, []api.Row{{Kind: api.RHead}}},
		{"State", func(w *api.World) { w.State++ }, []api.Row{{Kind: api.RHead}}},
		{"Gold 0", func(w *api.World) { w.Gold[0]++ }, []api.Row{{Kind: api.RHead}}},
		{"Gold 3", func(w *api.World) { w.Gold[3]++ }, []api.Row{{Kind: api.RHead}}},
		{"all of the head", func(w *api.World) { w.Seed, w.Frame, w.Floor, w.State, w.Gold[1] = 1, 1, 1, 1, 1 }, []api.Row{{Kind: api.RHead}}},
		{"the first cell", func(w *api.World) { w.Cells[0] = api.CFloor }, []api.Row{{Kind: api.RCells}}},
		{"the last cell", func(w *api.World) { w.Cells[383] = api.CFloor }, []api.Row{{Kind: api.RCells}}},
		{"two cells", func(w *api.World) { w.Cells[0], w.Cells[383] = api.CFloor, api.CDoor }, []api.Row{{Kind: api.RCells}}},
		{"the first entity", func(w *api.World) { w.Ents[0].Gen = 1 }, []api.Row{{Kind: api.REnt, N: 0}}},
		{"the last entity", func(w *api.World) { w.Ents[31].Stun = 1 }, []api.Row{{Kind: api.REnt, N: 31}}},
		{"two entities", func(w *api.World) { w.Ents[hero3].HP, w.Ents[orc].Poison = 1, 1 }, []api.Row{{Kind: api.REnt, N: orc}, {Kind: api.REnt, N: hero3}}},
		{"an entity that is gone", func(w *api.World) { w.Ents[mage] = api.Ent{Gen: 3} }, []api.Row{{Kind: api.REnt, N: mage}}},
		{"the first item", func(w *api.World) { w.Items[0] = api.Item{Kind: 1, Where: 2, A: 1} }, []api.Row{{Kind: api.RItem, N: 0}}},
		{"the last item", func(w *api.World) { w.Items[39].Kind = api.IGold }, []api.Row{{Kind: api.RItem, N: 39}}},
		{"two items that change places", func(w *api.World) { w.Items[4].A, w.Items[5].A, w.Items[5].B = 1, 0, 0 }, []api.Row{{Kind: api.RItem, N: 4}, {Kind: api.RItem, N: 5}}},
		{"one of each kind", func(w *api.World) { w.Frame, w.Cells[0], w.Ents[7].Gen, w.Items[4].A = 9, 1, 9, 1 }, []api.Row{{Kind: api.RHead}, {Kind: api.RCells}, {Kind: api.REnt, N: 7}, {Kind: api.RItem, N: 4}}},
	} {
		w := but(base, x.change)
		if Check(w) != api.OK {
			t.Fatalf("%s: a world that may not be", x.name)
		}
		if got := Rows(base, w); !slices.Equal(got, x.want) {
			t.Errorf("P1104: Rows: %s: %v, not %v", x.name, got, x.want)
		}
		if got := Rows(w, base); !slices.Equal(got, x.want) {
			t.Errorf("P1104: Rows, the other way about: %s: %v, not %v", x.name, got, x.want)
		}
		if got := Rows(w, twinOf(w)); len(got) != 0 {
			t.Errorf("P1104: Rows of a world and its twin: %v", got)
		}
	}
}

// TestRowsOfAll: all is another, so that each row of each kind is told, in order.
func TestRowsOfAll(t *testing.T) {
	a, b := plain(), plain()
	var want []api.Row
	b.Seed, b.Frame, b.Floor, b.State, b.Gold = 9, 9, 3, 2, [4]int{1, 2, 3, 4}
	b.Cells[0] = api.CWall
	want = append(want, api.Row{Kind: api.RHead}, api.Row{Kind: api.RCells})
	for n := range b.Ents {
		b.Ents[n].Gen = 1 + n
		want = append(want, api.Row{Kind: api.REnt, N: n})
	}
	for n := range b.Items {
		b.Items[n] = api.Item{Kind: 1 + n%4, Where: api.WCell, A: n % 24, B: 1 + n/24}
		want = append(want, api.Row{Kind: api.RItem, N: n})
	}
	if Check(b) != api.OK {
		t.Fatal("a world that may not be")
	}
	if got := Rows(a, b); !slices.Equal(got, want) {
		t.Errorf("P1104: Rows of all: %v", got)
	}
	r := newRing(t, 2)
	if got := r.Push(a, b); got != 74 || r.Stored() != 74 || r.Len() != 1 {
		t.Errorf("P1104: Push of all: %d, Stored %d", got, r.Stored())
	}
	if w, err := r.Back(b, 1); err != api.OK || !same(w, a) {
		t.Errorf("P1105: Back of all: %v, %+v", err, w)
	}
}

// P1104: the ring.

func newRing(t *testing.T, n int) *Ring {
	t.Helper()
	r, err := NewRing(n)
	if r == nil || err != api.OK {
		t.Fatalf("P1104: NewRing(%d): %v", n, err)
	}
	return r
}

// checkRing holds how much a ring keeps.
func checkRing(t *testing.T, what string, r *Ring, length, stored int) {
	t.Helper()
	if r.Len() != length || r.Stored() != stored || r.Len() != length || r.Stored() != stored {
		t.Errorf("P1104: %s: Len %d, Stored %d, not %d, %d", what, r.Len(), r.Stored(), length, stored)
	}
}

// checkTooFar holds that a ring refuses to go back so far, and that nothing came of it.
func checkTooFar(t *testing.T, r *Ring, now api.World, n int) {
	t.Helper()
	length, stored := r.Len(), r.Stored()
	w, err := r.Back(now, n)
	if err != api.ErrOld || w.Cells != nil || w.Ents != nil || w.Items != nil || !same(w, api.World{}) {
		t.Errorf("P1104, P4: Back(%d) of %d: %v, %+v", n, length, err, w)
	}
	checkRing(t, "behind ErrOld", r, length, stored)
}

func TestNewRing(t *testing.T) {
	for _, n := range []int{0, -1, 65, 66, 128, 256 + 1, 1<<32 + 1, math.MinInt, math.MaxInt} {
		if r, err := NewRing(n); r != nil || err != api.ErrArg {
			t.Errorf("P1104: NewRing(%d): %v, %v", n, r, err)
		}
	}
	for n := 1; n <= 64; n++ {
		r := newRing(t, n)
		checkRing(t, "new", r, 0, 0)
		checkTooFar(t, r, sample(), 1)
		checkTooFar(t, r, sample(), -1)
		if w, err := r.Back(sample(), 0); err != api.OK || !same(w, sample()) {
			t.Errorf("P1104: Back(0) of a new ring: %v, %+v", err, w)
		}
		line := lineOf(70)
		for f := range 69 {
			r.Push(line[f], line[f+1])
			if want := min(f+1, n); r.Len() != want {
				t.Fatalf("P1104: a ring of %d: Len %d behind %d pushes", n, r.Len(), f+1)
			}
		}
		checkTooFar(t, r, line[69], n+1)
		if w, err := r.Back(line[69], n); err != api.OK || !same(w, line[69-n]) {
			t.Errorf("P1104: a ring of %d: Back: %v", n, err)
		}
		checkRing(t, "all taken back", r, 0, 0)
	}
}

// lineOf are worlds one behind the other; from world f to f + 1 the head changes, and, if 2, 3, 5 divide f, row f % 32 of the entities, row f % 40 of the items, the cells.
func lineOf(n int) []api.World {
	l := []api.World{sample()}
	for f := range n - 1 {
		l = append(l, but(l[f], func(w *api.World) {
			w.Frame++
			if f%2 == 0 {
				e := &w.Ents[f%32]
				e.Gen = (e.Gen + 1) % 256
			}
			if f%3 == 0 {
				item := &w.Items[f%40]
				*item = map[bool]api.Item{true: {Kind: api.IGold, Where: api.WCell, A: 1 + f%40%8, B: 10 + f%40/8}, false: {}}[*item == api.Item{}]
				w.Cells[at(1+f%40%8, 10+f%40/8)] = api.CFloor
			}
			if f%5 == 0 {
				w.Cells[at(20, 1+f%14)] ^= api.CFloor
			}
		}))
	}
	return l
}

// TestRingStepByStep: a ring of 3, what each call answers, and what is kept behind it.
func TestRingStepByStep(t *testing.T) {
	w := []api.World{sample()}
	for _, change := range []func(w *api.World){
		func(w *api.World) { w.Frame++ },
		func(w *api.World) { w.Frame++; w.Ents[orc].HP = 1; w.Ents[orc].X = 3 },
		func(w *api.World) {},
		func(w *api.World) {
			w.Frame++
			w.Cells[0], w.Ents[orc], w.Items[1] = api.CFloor, api.Ent{}, api.Item{}
		},
		func(w *api.World) { w.Gold[3]++; w.Items[1] = api.Item{Kind: api.IGold, Where: api.WCell} },
	} {
		w = append(w, but(w[len(w)-1], change))
	}
	r := newRing(t, 3)
	push := func(f, rows, length, stored int) {
		t.Helper()
		if got := r.Push(w[f], w[f+1]); got != rows {
			t.Errorf("P1104: Push of frame %d: %d rows, not %d", f+1, got, rows)
		}
		checkRing(t, "Push", r, length, stored)
	}
	back := func(f, n, length, stored int) {
		t.Helper()
		if v, err := r.Back(w[f], n); err != api.OK || !same(v, w[f-n]) {
			t.Errorf("P1104: Back from frame %d by %d: %v, %+v, not %+v", f, n, err, v, w[f-n])
		}
		checkRing(t, "Back", r, length, stored)
	}
	push(0, 1, 1, 1)
	push(1, 2, 2, 3)
	push(2, 0, 3, 3) // a frame in which nothing changed is one
	back(3, 0, 3, 3)
	push(3, 4, 3, 6) // the first one is let go
	checkTooFar(t, r, w[4], 4)
	checkTooFar(t, r, w[4], -1)
	push(4, 2, 3, 6)
	back(5, 1, 2, 4)
	checkTooFar(t, r, w[4], 3)
	push(4, 2, 3, 6) // there is room for it
	back(5, 2, 1, 0)
	push(3, 4, 2, 4)
	back(4, 2, 0, 0)
	checkTooFar(t, r, w[2], 1)
	checkTooFar(t, r, w[2], math.MaxInt)
	checkTooFar(t, r, w[2], math.MinInt)
	push(2, 0, 1, 0)
	push(3, 4, 2, 4)
	push(4, 2, 3, 6)
	back(5, 3, 0, 0)
}

// TestRingGoesAnotherWay: behind a Back other frames are pushed than those that were taken back.
func TestRingGoesAnotherWay(t *testing.T) {
	line := lineOf(8)
	r := newRing(t, 6)
	for f := range 7 {
		r.Push(line[f], line[f+1])
	}
	w, _ := r.Back(line[7], 4)
	other := but(w, func(w *api.World) { w.Seed, w.Ents[hero1].HP, w.Items[39] = 5, 3, api.Item{} })
	if got := r.Push(w, other); got != 3 {
		t.Errorf("P1104: Push: %d rows, not 3", got)
	}
	if v, err := r.Back(other, 3); err != api.OK || !same(v, line[1]) || r.Len() != 0 {
		t.Errorf("P1104: Back over frames of two ways: %v, %+v", err, v)
	}
}

// TestRingsApart is P7: what is done to one ring another one does not see.
func TestRingsApart(t *testing.T) {
	line := lineOf(6)
	a, b := newRing(t, 4), newRing(t, 2)
	for f := range 5 {
		a.Push(line[f], line[f+1])
	}
	checkRing(t, "another ring", b, 0, 0)
	b.Push(line[4], line[5])
	was := a.Stored()
	b.Back(line[5], 1)
	checkRing(t, "the first ring", a, 4, was)
	if v, err := a.Back(line[5], 4); err != api.OK || !same(v, line[1]) {
		t.Errorf("P7: Back of the first ring: %v", err)
	}
}

// TestRingKeepsNothingHandedIn is P2: what was pushed may be overwritten, and so may what was answered.
func TestRingKeepsNothingHandedIn(t *testing.T) {
	line := lineOf(32)
	r := newRing(t, 31)
	for f := range 31 {
		old, oldWhole := spare(line[f])
		now, nowWhole := spare(line[f+1])
		was, then := twinOf(oldWhole), twinOf(nowWhole)
		if r.Push(old, now); !same(oldWhole, was) || !same(nowWhole, then) {
			t.Fatal("P2: Push changed what was handed in")
		}
		spoil(old)
		spoil(now)
	}
	for f := 31; f > 0; f-- {
		now, whole := spare(line[f])
		was := twinOf(whole)
		w, err := r.Back(now, 1)
		if err != api.OK || !same(w, line[f-1]) || !same(whole, was) {
			t.Fatalf("P2: Back to frame %d: %v, or what was handed in is another one", f-1, err)
		}
		if spoil(w); !same(whole, was) {
			t.Fatal("P2: an answer of Back shares memory with what was handed in")
		}
		v, _ := r.Back(now, 0)
		if spoil(v); !same(whole, was) {
			t.Fatal("P2: an answer of Back(0) shares memory with what was handed in")
		}
	}
}

// TestRingAnswersApart is P2: two rings that were pushed the same answer worlds that share nothing.
func TestRingAnswersApart(t *testing.T) {
	line := lineOf(16)
	a, b := newRing(t, 15), newRing(t, 15)
	for f := range 15 {
		a.Push(line[f], line[f+1])
		b.Push(line[f], line[f+1])
	}
	v, _ := a.Back(line[15], 15)
	w, _ := b.Back(line[15], 15)
	if spoil(v); !same(w, line[0]) {
		t.Error("P2: an answer shares memory with another one")
	}
}
