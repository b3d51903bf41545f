package crawl

import (
	"math"
	"math/rand/v2"
	"slices"
	"sync"
	"testing"

	"adit/api"
	"adit/ents"
	"adit/fight"
	"adit/gen"
	"adit/goods"
	"adit/minds"
	"adit/nav"
)

// What the words say, gone through in the plainest way over the faces of the layers below.

// heroOf tells the row of a seat's hero; -1: it has none.
func heroOf(w api.World, seat int) int {
	return slices.IndexFunc(w.Ents, func(e api.Ent) bool { return e.Kind == api.EHero && e.Seat == seat })
}

// enter puts one into the lowest free row; and whether there is one.
func enter(w *api.World, e api.Ent) bool {
	row := slices.IndexFunc(w.Ents, func(e api.Ent) bool { return e.Kind == api.ENone })
	if row < 0 {
		return false
	}
	e.Gen = (w.Ents[row].Gen + 1) % 256
	w.Ents[row] = e
	return true
}

// below is a world on the next floor, as P1002's part 5 says it.
func below(t *testing.T, w api.World) api.World {
	t.Helper()
	w = twinOf(w)
	w.Floor++
	level, err := gen.Make(w.Seed, w.Floor)
	if err != api.OK {
		t.Fatal(err)
	}
	for row, e := range w.Ents {
		if e.Kind >= api.ERat {
			w.Ents[row] = api.Ent{Gen: e.Gen}
		}
	}
	for row, item := range w.Items {
		if item.Where == api.WCell || item.Where == api.WShop {
			w.Items[row] = api.Item{}
		}
	}
	w.Cells = level.Cells
	up := slices.Index(level.Cells, api.CUp)
	var there []api.Ent
	for seat := range 4 {
		if row := heroOf(w, seat); row >= 0 {
			spot := nav.Spot(level.Cells, there, up%24, up/24)
			w.Ents[row].X, w.Ents[row].Y = spot%24, spot/24
			there = append(there, w.Ents[row])
		}
	}
	for _, e := range level.Ents {
		if !someone(w.Ents, e.X, e.Y) {
			enter(&w, e)
		}
	}
	for _, item := range level.Items {
		if row := slices.Index(w.Items, api.Item{}); row >= 0 {
			w.Items[row] = item
		}
	}
	return w
}

// tally counts what came about, by its name.
type tally map[string]int

// stepped is P1002.
func stepped(t *testing.T, w api.World, a api.Acts, n tally) api.World {
	t.Helper()
	w = twinOf(w)
	w.Frame++
	if w.State == api.Won || w.State == api.Lost {
		n["over"]++
		return w
	}
	had := slices.ContainsFunc(w.Ents, func(e api.Ent) bool { return e.Kind == api.EHero })
	w, came := part1(w, a, n)
	w, left := part2(w, a, n)
	w = part4(part3(w, n), n)
	switch {
	case slices.ContainsFunc(w.Ents, func(e api.Ent) bool { return e.Kind == api.EHero }):
	case had || came:
		n["lost"]++
		w.State = api.Lost
		return w
	default:
		n["nobody"]++
		return w
	}
	switch {
	case left && w.Floor == 3:
		n["won"]++
		w.State = api.Won
	case left:
		n["down"]++
		w = below(t, w)
	default:
		n["goes on"]++
	}
	return w
}

func part1(w api.World, a api.Acts, n tally) (api.World, bool) {
	came := false
	up := slices.Index(w.Cells, api.CUp)
	for seat := range 4 {
		if !a[seat].Spawn {
			continue
		}
		spot := nav.Spot(w.Cells, w.Ents, up%24, up/24)
		e := ents.Stats(api.EHero)
		e.Seat, e.X, e.Y = seat, spot%24, spot/24
		switch {
		case heroOf(w, seat) >= 0:
			n["there already"]++
		case spot < 0:
			n["no cell"]++
		case !enter(&w, e):
			n["no row"]++
		case spot != up:
			n["comes beside"]++
			came = true
		default:
			n["comes"]++
			came = true
		}
	}
	return w, came
}

func part2(w api.World, a api.Acts, n tally) (api.World, bool) {
	left := false
	for seat, act := range a {
		row := heroOf(w, seat)
		if row < 0 {
			continue
		}
		if w.Ents[row].Stun > 0 {
			n["stunned"]++
			continue
		}
		input := 0
		if act.How == api.Player && act.Input >= 0 && act.Input <= 10 {
			input = act.Input
		}
		if act.How == api.Robot {
			input = minds.Robot(w, seat)
		}
		switch {
		case act.How != api.Player && act.How != api.Robot:
			n["absent"]++
		case input >= 1 && input <= 4:
			w = strides(w, row, input, "hero", n)
		case input == api.Descend && w.Cells[at(w.Ents[row].X, w.Ents[row].Y)] == api.CDown:
			n["descends"]++
			left = true
		case input == api.Descend:
			n["descends elsewhere"]++
		case input >= 5:
			n["goods"]++
			w = goods.Do(w, seat, input)
		default:
			n["stays"]++
		}
	}
	return w, left
}

// strides lets one go a way or hit who stands there.
func strides(w api.World, row, way int, who string, n tally) api.World {
	x, y := w.Ents[row].X+ways[way-1].dx, w.Ents[row].Y+ways[way-1].dy
	other := slices.IndexFunc(w.Ents, func(e api.Ent) bool { return e.Kind != api.ENone && e.X == x && e.Y == y })
	switch {
	case other >= 0 && (w.Ents[other].Kind == api.EHero) == (who == "hero"):
		n[who+" before its like"]++
	case other >= 0:
		n[who+" hits"]++
		w = fight.Hit(w, row, other)
	case !walkable(w.Cells, x, y):
		n[who+" before a wall"]++
	default:
		n[who+" goes"]++
		w = twinOf(w)
		w.Ents[row].X, w.Ents[row].Y = x, y
	}
	return w
}

func part3(w api.World, n tally) api.World {
	for row := range 32 {
		switch {
		case w.Ents[row].Kind < api.ERat:
		case w.Ents[row].Stun > 0:
			n["monster stunned"]++
		case minds.Monster(w, row) == api.Stay:
			n["monster stays"]++
		default:
			w = strides(w, row, minds.Monster(w, row), "monster", n)
		}
	}
	return w
}

func part4(w api.World, n tally) api.World {
	w = fight.Ail(w)
	if w.Frame%16 != 0 {
		return w
	}
	up := slices.Index(w.Cells, api.CUp)
	e := ents.Stats(api.ERat)
	e.X, e.Y = up%24, up/24
	switch {
	case someone(w.Ents, e.X, e.Y):
		n["rat: taken"]++
	case !enter(&w, e):
		n["rat: no row"]++
	default:
		n["rat"]++
	}
	return w
}

// Worlds by chance.

// cave is a floor with so many walls of 10, and both stairs.
func cave(r *rand.Rand, walls int) []byte {
	cells := make([]byte, api.Cells)
	for i := range cells {
		if r.IntN(10) >= walls {
			cells[i] = []byte{api.CFloor, api.CFloor, api.CFloor, api.CDoor, api.CShop}[r.IntN(5)]
		}
	}
	up := r.IntN(api.Cells)
	cells[up], cells[(up+1+r.IntN(api.Cells-1))%api.Cells] = api.CUp, api.CDown
	return cells
}

// anyWorld is one that may be, by chance: a cave or a floor of gen, with heroes and monsters close together or everywhere, hale and ill, and items in all places.
func anyWorld(t *testing.T, r *rand.Rand) api.World {
	t.Helper()
	w := bare()
	w.Seed, w.Floor, w.Frame, w.Cells = int64(r.Uint64()), 1+r.IntN(3), r.IntN(1<<30-32), cave(r, r.IntN(10))
	if r.IntN(3) == 0 {
		w.Frame = w.Frame/16*16 + 15
	}
	if r.IntN(12) == 0 {
		w.State = 1 + r.IntN(2)
	}
	if r.IntN(3) == 0 {
		level, err := gen.Make(w.Seed, w.Floor)
		if err != api.OK {
			t.Fatal(err)
		}
		w.Cells = level.Cells
	}
	for seat := range w.Gold {
		w.Gold[seat] = []int{r.IntN(12), 999 - r.IntN(7)}[r.IntN(2)]
	}
	return littered(crowded(w, r), r)
}

// crowded is a world with heroes and monsters, each put if it may stand there.
func crowded(w api.World, r *rand.Rand) api.World {
	near := []int{r.IntN(api.Cells), slices.Index(w.Cells, api.CUp), slices.Index(w.Cells, api.CDown)}[r.IntN(3)]
	rows, many, heroes, wide, hale := r.Perm(api.MaxEnts), r.IntN(28), r.IntN(16), 9, r.IntN(2) == 0
	if r.IntN(3) == 0 {
		many, wide = api.MaxEnts*20, 48
	}
	for i := 0; i < 4+many && len(rows) > 0; i++ {
		x, y := near%24+r.IntN(wide)-wide/2, near/24+r.IntN(wide)-wide/2
		if r.IntN(6) == 0 {
			x, y = near%24, near/24
		}
		if !walkable(w.Cells, x, y) || someone(w.Ents, x, y) || i < 4 && heroes>>i&1 == 0 {
			continue
		}
		e := ents.Stats(2 + r.IntN(3))
		if i < 4 {
			e = ents.Stats(api.EHero)
			e.Seat = i
		}
		e.X, e.Y, e.Gen, e.HP = x, y, r.IntN(256), 1+r.IntN(e.Max)
		if r.IntN(3) == 0 {
			e.HP = 1 + r.IntN(2)
		}
		if e.Stun = max(0, r.IntN(19)-9); !hale {
			e.Poison = max(0, r.IntN(19)-9)
		}
		w.Ents[rows[0]] = e
		rows = rows[1:]
	}
	return w
}

// littered is a world with items, each laid if it may be.
func littered(w api.World, r *rand.Rand) api.World {
	lay := func(item api.Item) {
		v := w
		if v.Items = goods.Lay(w.Items, item); goods.Check(v) {
			w = v
		}
	}
	for _, e := range w.Ents {
		if e.Kind == api.EHero && r.IntN(3) == 0 {
			lay(lies(1+r.IntN(4), e.X, e.Y))
		}
	}
	for seat := range api.Seats {
		for slot := range api.Bag {
			if r.IntN(4) > 0 {
				lay(bag(seat, 1+r.IntN(3), slot))
			}
		}
	}
	for range 12 {
		lay(lies(1+r.IntN(4), r.IntN(24), r.IntN(16)))
		lay([]api.Item{sword(r.IntN(4)), mail(r.IntN(4)), shelf(api.IPotion, r.IntN(3))}[r.IntN(3)])
	}
	r.Shuffle(len(w.Items), func(i, j int) { w.Items[i], w.Items[j] = w.Items[j], w.Items[i] })
	return w
}

// someActs are acts by chance; who stands on CDown goes down more often than not.
func someActs(w api.World, r *rand.Rand) api.Acts {
	var a api.Acts
	for seat := range a {
		a[seat] = api.Act{How: []int{0, 1, 1, 1, 1, 2, 2, 3, -1, math.MinInt}[r.IntN(10)], Input: r.IntN(13) - 1, Spawn: r.IntN(3) == 0}
		if row := heroOf(w, seat); row >= 0 && w.Cells[at(w.Ents[row].X, w.Ents[row].Y)] == api.CDown && r.IntN(2) == 0 {
			a[seat].Input = api.Descend
		}
		if r.IntN(20) == 0 {
			a[seat].Input = int(r.Uint64())
		}
	}
	return a
}

// TestAsTheWordsSay is P1002, and P1003, in worlds by chance.
func TestAsTheWordsSay(t *testing.T) {
	r := rand.New(rand.NewPCG(10, 2))
	n := tally{}
	for range 8000 {
		w := anyWorld(t, r)
		if !mayBe(w) {
			t.Fatal("a world by chance is none that may be")
		}
		a := someActs(w, r)
		was, want := twinOf(w), stepped(t, w, a, n)
		got := Step(w, a)
		if checkSame(t, "P1002: a world by chance", got, want); t.Failed() {
			t.Fatalf("%+v: %+v", a, w)
		}
		if !mayBe(got) {
			t.Fatalf("P1003: %+v: %+v becomes %+v", a, w, got)
		}
		if !same(w, was) {
			t.Fatal("P2: the world that was handed in is another one")
		}
	}
	checkTally(t, n, "over", "there already", "no cell", "no row", "comes", "comes beside", "stunned", "absent", "stays", "goods", "descends", "descends elsewhere",
		"hero goes", "hero hits", "hero before its like", "hero before a wall", "monster goes", "monster hits", "monster stays", "monster stunned",
		"rat", "rat: taken", "rat: no row", "lost", "nobody", "won", "down", "goes on")
}

// checkTally holds that all that can come about did, often enough.
func checkTally(t *testing.T, n tally, names ...string) {
	t.Helper()
	for _, name := range names {
		if n[name] < 20 {
			t.Errorf("%s: %d times only", name, n[name])
		}
	}
}

// P1003: crawls.

// cast are the acts of a frame of a crawl: seats come now and then, players want this and that, robots want what they want.
func cast(r *rand.Rand, w api.World, hows [4]int) api.Acts {
	var a api.Acts
	for seat, how := range hows {
		a[seat] = api.Act{How: how, Input: r.IntN(11), Spawn: how != api.Absent && (w.Frame == 0 || r.IntN(40) == 0)}
		// Players press on as a robot would, most of the time.
		if want := minds.Robot(w, seat); how == api.Player && r.IntN(3) > 0 {
			a[seat].Input = want
		}
	}
	return a
}

// TestCrawls: over many frames, with players and robots, down the floors, each world that comes is one that may be, and the one that the words say.
func TestCrawls(t *testing.T) {
	r := rand.New(rand.NewPCG(10, 3))
	n, floors := tally{}, [4]int{}
	for seed := range int64(120) {
		w := New(seed - 40)
		hows := [][4]int{{2, 0, 0, 0}, {1, 0, 0, 2}, {2, 2, 2, 2}, {1, 1, 1, 1}, {0, 1, 2, 0}, {1, 2, 1, 2}}[seed%6]
		for w.Frame < 600 && (w.State == api.Running || r.IntN(4) > 0) {
			a := cast(r, w, hows)
			v := Step(w, a)
			checkSame(t, "P1002: a crawl", v, stepped(t, w, a, n))
			checkCrawl(t, w, v)
			if t.Failed() {
				t.Fatalf("seed %d, frame %d, floor %d", w.Seed, v.Frame, v.Floor)
			}
			w = v
		}
		floors[w.Floor]++
	}
	checkTally(t, n, "over", "comes", "comes beside", "stunned", "goods", "hero goes", "hero hits", "hero before its like", "monster goes", "monster hits", "rat", "rat: taken", "lost", "won", "down", "goes on")
	if slices.Min(floors[1:]) == 0 {
		t.Errorf("crawls ended on floors %v", floors)
	}
}

// checkCrawl holds what P1003 and T5 say of a frame of a crawl that began with New.
func checkCrawl(t *testing.T, w, v api.World) {
	t.Helper()
	if !mayBe(v) {
		t.Errorf("P1003: %+v becomes %+v", w, v)
	}
	level, err := gen.Make(v.Seed, v.Floor)
	if err != api.OK || !slices.Equal(v.Cells, level.Cells) || v.Seed != w.Seed || v.Frame != w.Frame+1 {
		t.Errorf("P1003: other cells than floor %d has, or frame %d behind %d", v.Floor, v.Frame, w.Frame)
	}
	if v.Floor != w.Floor && (v.Floor != w.Floor+1 || v.State != api.Running || w.State != api.Running) {
		t.Errorf("P1002: floor %d behind %d, state %d behind %d", v.Floor, w.Floor, v.State, w.State)
	}
}

// TestRobotsAlone: robots of all seats come down all floors or fall, and most of their crawls end.
func TestRobotsAlone(t *testing.T) {
	ended := [3]int{}
	for seed := range int64(40) {
		w := Step(New(seed), spawns(0, 1, 2, 3))
		for w.State == api.Running && w.Frame < 1500 {
			v := Step(w, all(robot(0), robot(1), robot(2), robot(3)))
			checkCrawl(t, w, v)
			w = v
		}
		ended[w.State]++
	}
	if ended[api.Won] == 0 || ended[api.Won]+ended[api.Lost] < 20 {
		t.Errorf("P1002: of 40 crawls of robots %d are won, %d lost, %d run", ended[api.Won], ended[api.Lost], ended[api.Running])
	}
}

// What holds everywhere.

// spare is a world whose lists have spare room, with numbers in it; and that world with this room.
func spare(w api.World) (api.World, api.World) {
	whole := w
	whole.Cells = append(slices.Clone(w.Cells), api.CDown, api.CUp, 7)
	whole.Ents = append(slices.Clone(w.Ents), api.Ent{Kind: api.EHero, X: 1, Y: 1, HP: 20, Max: 20}, api.Ent{Kind: api.ERat, X: 2, Y: 1}, api.Ent{})
	whole.Items = append(slices.Clone(w.Items), lies(api.IGold, 1, 1), api.Item{}, bag(1, api.IPotion, 1))
	w.Cells, w.Ents, w.Items = whole.Cells[:len(w.Cells)], whole.Ents[:len(w.Ents)], whole.Items[:len(w.Items)]
	return w, whole
}

// spoil overwrites all lists of a world, their spare room too.
func spoil(w api.World) {
	for i := range w.Cells[:cap(w.Cells)] {
		w.Cells[:cap(w.Cells)][i] = 200
	}
	for i := range w.Ents[:cap(w.Ents)] {
		w.Ents[:cap(w.Ents)][i] = api.Ent{Kind: -9, X: i}
	}
	for i := range w.Items[:cap(w.Items)] {
		w.Items[:cap(w.Items)][i] = api.Item{Kind: -9, A: i}
	}
}

// TestWorldStays is P2: what is handed in stays, its spare room too, and what is answered shares nothing with it.
func TestWorldStays(t *testing.T) {
	r := rand.New(rand.NewPCG(10, 4))
	few := drawn("r.0", "..>")
	few.Cells, few.Ents, few.Items = few.Cells[:30], few.Ents[:30], few.Items[:2]
	worlds := []api.World{few, {}, {State: api.Won}, bare(), open(), busy(), New(1), onStair(3, 1, "01"), onStair(3, 3, "2")}
	for _, state := range []int{api.Won, api.Lost} {
		worlds = append(worlds, changed(busy(), stands(state)))
	}
	for range 300 {
		worlds = append(worlds, anyWorld(t, r))
	}
	for _, start := range worlds {
		w, whole := spare(start)
		was := twinOf(whole)
		for _, a := range []api.Acts{{}, someActs(start, r), someActs(start, r), spawns(0, 1, 2, 3), player(0, api.Descend), player(2, api.Descend)} {
			first := Step(w, a)
			kept := twinOf(first)
			again := Step(w, a)
			if !same(first, again) {
				t.Fatal("P3: the same world and acts, another world")
			}
			if spoil(again); !same(first, kept) || !same(whole, was) {
				t.Fatal("P2: an answer shares memory with what was handed in, or with another answer")
			}
		}
		// What was answered stays, whatever becomes of the world that was handed in.
		answer := Step(w, player(0, api.Pick))
		kept := twinOf(answer)
		if spoil(w); !same(answer, kept) {
			t.Fatal("P2: an answer shares memory with what was handed in")
		}
	}
}

// TestNoListIsAnEmptyOne is P2 of no list.
func TestNoListIsAnEmptyOne(t *testing.T) {
	none, empty := busy(), busy()
	none.Cells, none.Ents, none.Items = nil, nil, nil
	empty.Cells, empty.Ents, empty.Items = []byte{}, []api.Ent{}, []api.Item{}
	for _, a := range anyActs() {
		if v := Step(none, a); !same(v, Step(empty, a)) || len(v.Cells)+len(v.Ents)+len(v.Items) > 0 {
			t.Errorf("P2: no lists: %+v", v)
		}
	}
}

// TestSameAlways is P3 and W2, asked by many at once, with others in between.
func TestSameAlways(t *testing.T) {
	r := rand.New(rand.NewPCG(10, 5))
	var worlds, made []api.World
	var acts []api.Acts
	for range 60 {
		w := anyWorld(t, r)
		a := someActs(w, r)
		worlds, acts, made = append(worlds, w), append(acts, a), append(made, Step(w, a))
	}
	beginning := New(11)
	var several sync.WaitGroup
	for range 8 {
		several.Go(func() {
			for i := range worlds {
				if !same(Step(worlds[i], acts[i]), made[i]) {
					t.Error("P3: the same world and acts, another world")
				}
				if !same(New(11), beginning) {
					t.Error("P3: the same seed, another world")
				}
			}
		})
	}
	several.Wait()
}

// TestAnyWorld is P1 and P2 of worlds that may not be: every call ends and leaves what it was given.
func TestAnyWorld(t *testing.T) {
	r := rand.New(rand.NewPCG(10, 9))
	num := func() int {
		return []int{r.IntN(6) - 1, r.IntN(6) - 1, r.IntN(6) - 1, r.IntN(33), math.MaxInt - r.IntN(7), math.MinInt + r.IntN(7), int(r.Uint64()), 1<<53 + r.IntN(9) - 4}[r.IntN(8)]
	}
	for range 12000 {
		w := api.World{Seed: int64(r.Uint64()), Frame: num(), Floor: num(), State: num() % 3, Cells: make([]byte, r.IntN(400)), Gold: [4]int{num(), num(), num(), num()}}
		for i := range w.Cells {
			w.Cells[i] = byte(r.IntN(7))
		}
		for range r.IntN(40) {
			w.Ents = append(w.Ents, api.Ent{Kind: num(), Gen: num(), Seat: num(), X: num(), Y: num(), HP: num(), Max: num(), Atk: num(), Def: num(), Poison: num(), Stun: num()})
		}
		for range r.IntN(50) {
			w.Items = append(w.Items, api.Item{Kind: num(), Where: num(), A: num(), B: num()})
		}
		var a api.Acts
		for seat := range a {
			a[seat] = api.Act{How: num(), Input: []int{num(), api.Descend}[r.IntN(2)], Spawn: r.IntN(2) == 0}
		}
		was := twinOf(w)
		if v := Step(w, a); v.Frame != was.Frame+1 {
			t.Fatalf("P1002: frame %d behind %d", v.Frame, was.Frame)
		}
		if !same(w, was) {
			t.Fatal("P2: a world that may not be was changed")
		}
	}
}
