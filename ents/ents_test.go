package ents

import (
	"math"
	"math/rand/v2"
	"slices"
	"sync"
	"testing"

	"adit/api"
)

// kinds are those that there are.
var kinds = []int{api.EHero, api.ERat, api.EOrc, api.EMage}

// noKinds are numbers that are none: beside the kinds, and such as are one modulo a power of 2.
func noKinds() []int {
	l := []int{math.MinInt, math.MinInt + 1, math.MaxInt, math.MaxInt - 1}
	for n := -300; n <= 600; n++ {
		if n < 1 || n > 4 {
			l = append(l, n)
		}
	}
	for n := range 5 {
		l = append(l, n+1<<16, n+1<<31, n+1<<32, n-1<<32, n+1<<62, n+math.MinInt)
	}
	return l
}

// noRows are numbers that are no row of a list of n rows, MaxEnts at most.
func noRows(n int) []int {
	return []int{-1, -2, -31, -32, -33, -256, math.MinInt, math.MinInt + 1, -1 << 32,
		n, n + 1, n + 31, 32, 33, 63, 64, 255, 256, 1 << 31, 1 << 32, 1 << 59, 1 << 62, math.MaxInt - 1, math.MaxInt}
}

// full is a list of n rows, none of them free and no two alike.
func full(n int) []api.Ent {
	l := make([]api.Ent, n)
	for i := range l {
		l[i] = api.Ent{Kind: kinds[i%4], Gen: (7 * i) % 256, Seat: i % 5, X: 100 + i, Y: 200 + i, HP: i, Max: 30 + i, Atk: i % 3, Def: i % 2, Poison: i % 10, Stun: i % 7}
	}
	return l
}

// odd is an entity such as no world has: every field of it has a number of its own.
func odd(kind int) api.Ent {
	return api.Ent{Kind: kind, Gen: 77, Seat: -3, X: math.MaxInt, Y: math.MinInt, HP: -9, Max: 1 << 40, Atk: -1, Def: 12345, Poison: -7, Stun: 99}
}

// litter is a row that is free but holds something.
func litter(gen int) api.Ent {
	e := odd(api.ENone)
	e.Gen = gen
	return e
}

func TestStats(t *testing.T) {
	for kind, want := range map[int]api.Ent{
		api.EHero: {Kind: api.EHero, Gen: 0, Seat: 0, X: 0, Y: 0, HP: 20, Max: 20, Atk: 5, Def: 1, Poison: 0, Stun: 0},
		api.ERat:  {Kind: api.ERat, Gen: 0, Seat: 0, X: 0, Y: 0, HP: 4, Max: 4, Atk: 2, Def: 0, Poison: 0, Stun: 0},
		api.EOrc:  {Kind: api.EOrc, Gen: 0, Seat: 0, X: 0, Y: 0, HP: 9, Max: 9, Atk: 4, Def: 1, Poison: 0, Stun: 0},
		api.EMage: {Kind: api.EMage, Gen: 0, Seat: 0, X: 0, Y: 0, HP: 6, Max: 6, Atk: 3, Def: 0, Poison: 0, Stun: 0},
	} {
		if got := Stats(kind); got != want {
			t.Errorf("P501: kind %d: %+v, not %+v", kind, got, want)
		}
	}
	for _, kind := range noKinds() {
		if got := Stats(kind); got != (api.Ent{}) {
			t.Errorf("P501: kind %d: %+v, not the zero entity", kind, got)
		}
	}
}

// checkSpawn holds a Spawn that must not fail against P502.
func checkSpawn(t *testing.T, l []api.Ent, e api.Ent, row int) []api.Ent {
	t.Helper()
	want := slices.Clone(l)
	want[row] = e
	want[row].Gen = l[row].Gen + 1
	if want[row].Gen == 256 {
		want[row].Gen = 0
	}
	got, at, err := Spawn(l, e)
	if err != api.OK || at != row {
		t.Fatalf("P502: Spawn of kind %d into %d rows: row %d, %v, not row %d", e.Kind, len(l), at, err, row)
	}
	if !slices.Equal(got, want) {
		t.Fatalf("P502: Spawn of kind %d into %d rows: %+v, not %+v", e.Kind, len(l), got, want)
	}
	return got
}

// refused holds a Spawn that must fail against P502 and P4.
func refused(t *testing.T, l []api.Ent, e api.Ent, want api.Errno) {
	t.Helper()
	got, row, err := Spawn(l, e)
	if err != want {
		t.Errorf("P502: Spawn of kind %d into %d rows: %v, not %v", e.Kind, len(l), err, want)
	}
	if len(got) != 0 || row != 0 {
		t.Errorf("P4: Spawn of kind %d into %d rows: %d rows and row %d beside an error", e.Kind, len(l), len(got), row)
	}
}

// TestFirstId is the chapter's example.
func TestFirstId(t *testing.T) {
	l, row, err := Spawn(make([]api.Ent, api.MaxEnts), Stats(api.EHero))
	if err != api.OK || row != 0 || l[0].Gen != 1 || Id(l, 0) != 32 || Of(l, 32) != 0 {
		t.Errorf("P502, P503: row %d, %v, %+v, id %d", row, err, l[0], Id(l, 0))
	}
}

func TestSpawnEachKind(t *testing.T) {
	for _, kind := range kinds {
		checkSpawn(t, make([]api.Ent, api.MaxEnts), Stats(kind), 0)
		// What is spawned is taken as it is, but for Gen.
		checkSpawn(t, make([]api.Ent, api.MaxEnts), odd(kind), 0)
	}
}

// TestSpawnNoKind: of both errors the kind is the first one.
func TestSpawnNoKind(t *testing.T) {
	for _, kind := range noKinds() {
		for _, l := range [][]api.Ent{make([]api.Ent, api.MaxEnts), full(api.MaxEnts), full(40), full(3), {{}}, {}, nil} {
			refused(t, l, odd(kind), api.ErrKind)
		}
	}
}

func TestSpawnIntoTheLowestFreeRow(t *testing.T) {
	for row := range api.MaxEnts {
		l := full(api.MaxEnts)
		l[row] = api.Ent{Gen: row}
		checkSpawn(t, l, Stats(api.EOrc), row)
		for i := row; i < len(l); i += 3 {
			l[i] = litter(i)
		}
		checkSpawn(t, l, Stats(api.EOrc), row)
	}
}

// TestSpawnRowsAsTheyAre: a row is free by its Kind alone, whatever else it holds; a kind that there is not is not free.
func TestSpawnRowsAsTheyAre(t *testing.T) {
	checkSpawn(t, []api.Ent{{Kind: -1}, {Kind: 5}, {Kind: 256}, {Kind: 1 << 32}, litter(3), {}}, Stats(api.ERat), 4)
	checkSpawn(t, []api.Ent{odd(api.EHero), odd(api.ERat), {Kind: api.EOrc}, litter(0)}, odd(api.EMage), 3)
	refused(t, []api.Ent{{Kind: -1}, {Kind: 5}, {Kind: math.MinInt}}, Stats(api.ERat), api.ErrFull)
}

func TestSpawnCountsGen(t *testing.T) {
	for gen := range 256 {
		for _, free := range []api.Ent{{Gen: gen}, litter(gen)} {
			l := full(api.MaxEnts)
			l[5] = free
			got := checkSpawn(t, l, odd(api.ERat), 5)
			if want := (gen + 1) % 256; got[5].Gen != want || Id(got, 5) != 5+32*want {
				t.Errorf("P502: Gen %d becomes %d, not %d", gen, got[5].Gen, want)
			}
		}
	}
}

func TestSpawnIntoFullLists(t *testing.T) {
	for _, kind := range kinds {
		for n := range api.MaxEnts + 1 {
			refused(t, full(n), Stats(kind), api.ErrFull)
		}
		refused(t, nil, Stats(kind), api.ErrFull)
		// Free rows beyond MaxEnts are none, and no more is spare room.
		refused(t, append(full(api.MaxEnts), api.Ent{}), Stats(kind), api.ErrFull)
		refused(t, append(full(api.MaxEnts), make([]api.Ent, 300)...), Stats(kind), api.ErrFull)
		refused(t, append(full(7), api.Ent{})[:7], Stats(kind), api.ErrFull)
	}
}

// TestSpawnIntoFewAndManyRows: as many rows as there were.
func TestSpawnIntoFewAndManyRows(t *testing.T) {
	for _, n := range []int{1, 2, 3, 31, 32, 33, 40, 64, 300} {
		checkSpawn(t, make([]api.Ent, n), Stats(api.EHero), 0)
		l := full(n)
		last := min(n, api.MaxEnts) - 1
		l[last], l[n-1].Kind = litter(255), api.ENone
		checkSpawn(t, l, Stats(api.EHero), last)
	}
}

// TestSpawnTillItIsFull: T5: there are at most MaxEnts entities.
func TestSpawnTillItIsFull(t *testing.T) {
	for _, n := range []int{0, 1, 5, 31, 32, 33, 50} {
		l := make([]api.Ent, n)
		for row := range min(n, api.MaxEnts) {
			l = checkSpawn(t, l, Stats(kinds[row%4]), row)
		}
		refused(t, l, Stats(api.ERat), api.ErrFull)
	}
}

func TestFullThenOneRowFreed(t *testing.T) {
	for row := range api.MaxEnts {
		l := full(api.MaxEnts)
		was := Id(l, row)
		freed := Free(l, row)
		again := checkSpawn(t, freed, Stats(api.EMage), row)
		refused(t, again, Stats(api.EMage), api.ErrFull)
		if Id(freed, row) != -1 || Of(freed, was) != -1 || Of(again, was) != -1 {
			t.Errorf("P503: row %d, which was freed, has its id still", row)
		}
		if now := Id(again, row); now == was || Of(again, now) != row {
			t.Errorf("P504: row %d: id %d, then %d", row, was, now)
		}
	}
}

// checkFree holds a Free of a row that is there against P502.
func checkFree(t *testing.T, l []api.Ent, row int) {
	t.Helper()
	want := slices.Clone(l)
	want[row] = api.Ent{Gen: l[row].Gen}
	if got := Free(l, row); !slices.Equal(got, want) {
		t.Errorf("P502: Free of row %d of %d: %+v, not %+v", row, len(l), got, want)
	}
}

func TestFree(t *testing.T) {
	for _, n := range []int{1, 2, 31, 32, 33, 40} {
		for row := range min(n, api.MaxEnts) {
			checkFree(t, full(n), row)
		}
	}
	for gen := range 256 {
		l := full(api.MaxEnts)
		l[9].Gen, l[10], l[11], l[12] = gen, litter(gen), odd(api.EHero), api.Ent{Gen: gen}
		l[13].Kind, l[14].Kind = 5, -1
		for row := 9; row < 15; row++ {
			checkFree(t, l, row)
		}
	}
}

func TestFreeOfNoRow(t *testing.T) {
	for _, n := range []int{0, 1, 2, 17, 31, 32} {
		for _, row := range noRows(n) {
			l := full(n)
			if got := Free(l, row); !slices.Equal(got, l) {
				t.Errorf("P502: Free of row %d of %d: %+v, not as it was", row, n, got)
			}
		}
	}
	for _, row := range noRows(0) {
		if got := Free(nil, row); len(got) != 0 {
			t.Errorf("P502: Free of row %d of none: %+v", row, got)
		}
	}
	if got := Free(nil, 0); len(got) != 0 {
		t.Errorf("P502: Free of row 0 of none: %+v", got)
	}
	// What is spare room of a list is none of its rows.
	l := full(8)
	if got := Free(l[:5], 6); !slices.Equal(got, full(8)[:5]) || !slices.Equal(l, full(8)) {
		t.Errorf("P502: Free behind the last row: %+v", got)
	}
}

func TestAt(t *testing.T) {
	l := make([]api.Ent, api.MaxEnts)
	l[0] = api.Ent{X: 4, Y: 5} // free but not empty
	l[3] = api.Ent{Kind: api.ERat, X: 2, Y: 5}
	l[7] = api.Ent{Kind: api.EHero, X: 2, Y: 5, Seat: 1}
	l[8] = api.Ent{Kind: api.EMage, X: 5, Y: 2}
	l[9] = api.Ent{Kind: api.EOrc, X: 4, Y: 5}
	l[10] = api.Ent{Kind: 9, X: 6, Y: 6}
	l[11] = api.Ent{Kind: -1, X: -6, Y: -7}
	l[31] = api.Ent{Kind: api.EOrc, X: math.MaxInt, Y: math.MinInt}
	for at, want := range map[place]int{
		{2, 5}: 3, {5, 2}: 8, {4, 5}: 9, {6, 6}: 10, {-6, -7}: 11, {math.MaxInt, math.MinInt}: 31,
		{0, 0}: -1, {2, 2}: -1, {5, 5}: -1, {2, 0}: -1, {0, 5}: -1, {2, 6}: -1, {3, 5}: -1, {5, 4}: -1, {-2, -5}: -1, {6, 7}: -1,
		{26, 4}: -1, {2 + 24, 5}: -1, {2 + 1<<32, 5}: -1, {math.MinInt, math.MaxInt}: -1, {math.MaxInt, math.MaxInt}: -1,
	} {
		if got := At(l, at.x, at.y); got != want {
			t.Errorf("P503: At %v: %d, not %d", at, got, want)
		}
	}
	if At(nil, 0, 0) != -1 || At([]api.Ent{}, 0, 0) != -1 || At(l[:3], 2, 5) != -1 || At(l[:4], 2, 5) != 3 {
		t.Error("P503: At of lists with fewer rows")
	}
}

// TestAtEachRow: of two at one place the lower one, and of all.
func TestAtEachRow(t *testing.T) {
	for n := 1; n <= api.MaxEnts; n++ {
		for row := range n {
			l := full(n)
			if got := At(l, 100+row, 200+row); got != row {
				t.Errorf("P503: At of row %d: %d", row, got)
			}
			l[n-1].X, l[n-1].Y = l[row].X, l[row].Y
			if got := At(l, 100+row, 200+row); got != row {
				t.Errorf("P503: At of rows %d and %d: %d", row, n-1, got)
			}
		}
		l := full(n)
		for row := range n - 1 {
			l[row].Kind, l[row].X, l[row].Y = api.ENone, 1, 1
		}
		l[n-1].X, l[n-1].Y = 1, 1
		if got := At(l, 1, 1); got != n-1 {
			t.Errorf("P503: At of row %d, free ones ahead of it: %d", n-1, got)
		}
	}
}

func TestHero(t *testing.T) {
	l := make([]api.Ent, api.MaxEnts)
	l[0] = api.Ent{Seat: 1} // free but not empty
	l[1] = api.Ent{Kind: api.ERat, Seat: 1}
	l[2] = api.Ent{Kind: api.EMage, Seat: 2}
	l[4] = api.Ent{Kind: api.EHero, Seat: 3}
	l[7] = api.Ent{Kind: api.EHero, Seat: 1}
	l[8] = api.Ent{Kind: api.EHero, Seat: 1}
	l[9] = api.Ent{Kind: 5, Seat: 4}
	l[10] = api.Ent{Kind: -1, Seat: 4}
	l[11] = api.Ent{Kind: api.EHero + 1<<32, Seat: 4}
	l[12] = api.Ent{Kind: api.EHero, Seat: -5}
	l[31] = api.Ent{Kind: api.EHero, Seat: 1 << 62}
	for seat, want := range map[int]int{
		1: 7, 3: 4, -5: 12, 1 << 62: 31, // any seat, as the rows have it
		0: -1, 2: -1, 4: -1, -1: -1, 5: -1, 257: -1, 1 + 1<<32: -1, math.MaxInt: -1, math.MinInt: -1,
	} {
		if got := Hero(l, seat); got != want {
			t.Errorf("P503: Hero of seat %d: %d, not %d", seat, got, want)
		}
	}
	if Hero(nil, 0) != -1 || Hero([]api.Ent{}, 0) != -1 || Hero(l[:7], 1) != -1 || Hero(l[:8], 1) != 7 {
		t.Error("P503: Hero of lists with fewer rows")
	}
	l[7] = api.Ent{Gen: 1}
	if got := Hero(l, 1); got != 8 {
		t.Errorf("P503: the hero behind one that is gone: %d", got)
	}
}

func TestHeroEachRow(t *testing.T) {
	for row := range api.MaxEnts {
		for seat := range api.Seats {
			l := full(api.MaxEnts)
			for i := range l {
				l[i].Kind, l[i].Seat = []int{api.ERat, api.EOrc, api.EMage, api.ENone}[i%4], seat
			}
			l[row].Kind, l[31].Kind = api.EHero, api.EHero
			for asked := range api.Seats {
				want := -1
				if asked == seat {
					want = row
				}
				if got := Hero(l, asked); got != want {
					t.Errorf("P503: Hero of seat %d, that of seat %d in row %d: %d", asked, seat, row, got)
				}
			}
		}
	}
}

// TestIdsOfAllRows: of each row and each Gen; no two of them are the same, and Of leads back.
func TestIdsOfAllRows(t *testing.T) {
	seen := map[int]int{}
	for gen := range 256 {
		l := full(api.MaxEnts)
		for row := range l {
			l[row].Gen = gen
		}
		for row := range l {
			id := Id(l, row)
			if id != row+32*gen {
				t.Fatalf("P503: Id of row %d, Gen %d: %d", row, gen, id)
			}
			if got := Of(l, id); got != row {
				t.Fatalf("P503: Of %d: %d, not %d", id, got, row)
			}
			if seen[id]++; seen[id] > 1 {
				t.Fatalf("P503: id %d of two", id)
			}
		}
	}
}

// TestOfAllIds: one row has an id, and all others are nobody's.
func TestOfAllIds(t *testing.T) {
	for _, x := range []struct{ row, gen int }{{0, 0}, {0, 1}, {0, 255}, {1, 0}, {31, 0}, {31, 255}, {17, 128}} {
		l := make([]api.Ent, api.MaxEnts)
		for i := range l {
			l[i] = litter(i)
		}
		l[x.row] = api.Ent{Kind: api.EOrc, Gen: x.gen}
		for id := -300; id < 32*256+300; id++ {
			want := -1
			if id == x.row+32*x.gen {
				want = x.row
			}
			if got := Of(l, id); got != want {
				t.Fatalf("P503: Of %d, row %d with Gen %d alone: %d, not %d", id, x.row, x.gen, got, want)
			}
		}
	}
}

func TestIdOfNoRow(t *testing.T) {
	for _, n := range []int{0, 1, 2, 17, 31, 32} {
		for _, row := range noRows(n) {
			if got := Id(full(n), row); got != -1 {
				t.Errorf("P503: Id of row %d of %d: %d", row, n, got)
			}
		}
	}
	for _, free := range []api.Ent{{}, {Gen: 255}, litter(0), litter(9)} {
		l := full(api.MaxEnts)
		l[6] = free
		if got := Id(l, 6); got != -1 {
			t.Errorf("P503: Id of %+v, which is free: %d", free, got)
		}
	}
	if Id(nil, 0) != -1 || Id([]api.Ent{}, 0) != -1 || Id(full(8)[:5], 6) != -1 {
		t.Error("P503: Id of lists with fewer rows")
	}
	// A kind that there is not is not free.
	if got := Id([]api.Ent{{}, {Kind: 5, Gen: 2}, {Kind: -1, Gen: 3}}, 2); got != 2+32*3 {
		t.Errorf("P503: Id of a row of kind -1: %d", got)
	}
}

func TestOfNoId(t *testing.T) {
	ids := []int{-1, -2, -31, -32, -33, -64, math.MinInt, math.MinInt + 1, math.MinInt + 32, 32 * 256, 32*256 + 5, 1 << 32, 5 + 1<<32, 1 << 62, 5 + 1<<62, math.MaxInt, math.MaxInt - 26}
	for _, id := range ids {
		for _, l := range [][]api.Ent{full(api.MaxEnts), full(6), make([]api.Ent, api.MaxEnts), make([]api.Ent, 2), {litter(0), litter(255)}, {}, nil} {
			if got := Of(l, id); got != -1 {
				t.Errorf("P503: Of %d in %d rows: %d", id, len(l), got)
			}
		}
	}
	l := []api.Ent{{Kind: api.ERat, Gen: 1}, {Kind: api.ERat, Gen: 2}, {Gen: 3}}
	for id, want := range map[int]int{32: 0, 65: 1, 98: -1, 0: -1, 1: -1, 2: -1, 33: -1, 64: -1, 34: -1, 31: -1, 63: -1, 97: -1} {
		if got := Of(l, id); got != want {
			t.Errorf("P503: Of %d: %d, not %d", id, got, want)
		}
	}
	if Of(nil, 0) != -1 || Of([]api.Ent{}, 0) != -1 || Of(full(8)[:5], 6+32*42) != -1 {
		t.Error("P503: Of in lists with fewer rows")
	}
}

// TestRowsBeyondAreNone: a list has MaxEnts rows; what stands behind them stays, and is none.
func TestRowsBeyondAreNone(t *testing.T) {
	for _, n := range []int{33, 40, 64, 100} {
		l := full(n)
		for row := api.MaxEnts; row < n; row++ {
			l[row].Kind, l[row].Gen, l[row].Seat = api.EHero, 200, 50+row
			if got := Free(l, row); !slices.Equal(got, l) {
				t.Errorf("P502: Free of row %d of %d: %+v", row, n, got)
			}
			if At(l, l[row].X, l[row].Y) != -1 || Hero(l, 50+row) != -1 || Id(l, row) != -1 || Of(l, row+32*200) != -1 {
				t.Errorf("P503: row %d of %d is told", row, n)
			}
		}
		if At(l, 131, 231) != 31 || Id(l, 31) != 31+32*217 || Of(l, 31+32*217) != 31 {
			t.Errorf("P503: the last row of %d", n)
		}
	}
}

// TestOtherIdEachTime is P504: till Gen comes round, and then the first one again.
func TestOtherIdEachTime(t *testing.T) {
	for _, row := range []int{0, 1, 16, 31} {
		l := full(api.MaxEnts)
		first := Id(l, row)
		seen := map[int]int{first: 1}
		for k := 1; k <= 256; k++ {
			was := Id(l, row)
			l = checkSpawn(t, Free(l, row), Stats(kinds[k%4]), row)
			id := Id(l, row)
			if Of(l, id) != row || Of(l, was) != -1 {
				t.Fatalf("P504: row %d, id %d, then %d: Of %d, %d", row, was, id, Of(l, was), Of(l, id))
			}
			if seen[id]++; k < 256 && seen[id] > 1 {
				t.Fatalf("P504: row %d has id %d again, spawned %d times", row, id, k)
			}
		}
		if got := Id(l, row); got != first {
			t.Errorf("P504: Gen of row %d came round, id %d, not %d", row, got, first)
		}
	}
}

// checkAsked holds what At, Hero, Id and Of tell against their words, for all that a list may be asked.
func checkAsked(t *testing.T, l []api.Ent) {
	t.Helper()
	at, heroes, ids := map[place]int{}, map[int]int{}, map[int]int{}
	for row := min(len(l), 32) - 1; row >= 0; row-- {
		e := l[row]
		id := -1
		if e.Kind != api.ENone {
			id = row + 32*e.Gen
			at[place{e.X, e.Y}], ids[id] = row, row
		}
		if e.Kind == api.EHero {
			heroes[e.Seat] = row
		}
		if got := Id(l, row); got != id {
			t.Fatalf("P503: Id of row %d: %d, not %d", row, got, id)
		}
	}
	told := func(rows map[int]int, n int) int {
		if row, ok := rows[n]; ok {
			return row
		}
		return -1
	}
	for x := range 6 {
		for y := range 6 {
			want, ok := at[place{x, y}]
			if got := At(l, x, y); ok && got != want || !ok && got != -1 {
				t.Fatalf("P503: At (%d, %d) of %+v: %d", x, y, l, got)
			}
		}
	}
	for seat := -1; seat <= 4; seat++ {
		if got := Hero(l, seat); got != told(heroes, seat) {
			t.Fatalf("P503: Hero of seat %d of %+v: %d", seat, l, got)
		}
	}
	for id := -40; id < 200; id++ {
		if got := Of(l, id); got != told(ids, id) {
			t.Fatalf("P503: Of %d of %+v: %d", id, l, got)
		}
	}
}

// TestByChance: entities come and go, in lists of any length.
func TestByChance(t *testing.T) {
	r := rand.New(rand.NewPCG(5, 1))
	for range 60 {
		l := make([]api.Ent, r.IntN(36))
		for i := range l {
			if l[i] = litter(r.IntN(4)); r.IntN(2) == 0 {
				l[i] = api.Ent{Gen: 255 * r.IntN(2)}
			}
		}
		for range 100 {
			e := api.Ent{Kind: 1 + r.IntN(4), Gen: r.IntN(256), Seat: r.IntN(4), X: r.IntN(5), Y: r.IntN(5), HP: r.IntN(9)}
			free := slices.IndexFunc(l, func(e api.Ent) bool { return e.Kind == 0 })
			switch row := r.IntN(40) - 3; {
			case r.IntN(3) == 0 && row >= 0 && row < min(len(l), 32):
				checkFree(t, l, row)
				l = Free(l, row)
			case free < 0 || free >= 32:
				refused(t, l, e, api.ErrFull)
			default:
				l = checkSpawn(t, l, e, free)
			}
			checkAsked(t, l)
		}
	}
}

// calls are those that answer a list, and those that ask one.
func calls(l []api.Ent) [][]api.Ent {
	spawned, _, _ := Spawn(l, Stats(api.EOrc))
	wrong, _, _ := Spawn(l, Stats(9))
	for n := -2; n < 40; n++ {
		At(l, 100+n, 200+n)
		Hero(l, n)
		Id(l, n)
		Of(l, n*33)
	}
	return [][]api.Ent{spawned, wrong, Free(l, 2), Free(l, len(l)-1), Free(l, len(l)), Free(l, -1), Free(l, 1<<40)}
}

// TestListStays is P2: what is handed in, its spare room too, is as it was, and no answer shares it, or another's.
func TestListStays(t *testing.T) {
	for _, n := range []int{0, 1, 3, 31, 32, 33, 40} {
		for _, free := range []int{-1, 0, n / 2, n - 1} {
			for _, spare := range []int{0, 1, 8, 64} {
				whole := full(n + spare)
				if free >= 0 && free < n {
					whole[free] = litter(255)
				}
				was := slices.Clone(whole)
				answers := calls(whole[:n])
				if !slices.Equal(whole, was) {
					t.Fatalf("P2: a list of %d rows, %d more behind it, was changed", n, spare)
				}
				checkApart(t, whole, answers)
			}
		}
	}
}

// checkApart spoils each answer, spare room too, and looks whether the list or another answer changed by it.
func checkApart(t *testing.T, whole []api.Ent, answers [][]api.Ent) {
	t.Helper()
	lists := append([][]api.Ent{whole}, answers...)
	for i := range lists {
		var were [][]api.Ent
		for _, l := range lists {
			were = append(were, slices.Clone(l[:cap(l)]))
		}
		for k := range lists[i][:cap(lists[i])] {
			lists[i][:cap(lists[i])][k].Kind -= 1000 + i
		}
		for j, l := range lists {
			if j != i && !slices.Equal(l[:cap(l)], were[j]) {
				t.Fatalf("P2: lists %d and %d of %d rows share memory", i, j, len(whole))
			}
		}
	}
}

// TestNoListIsAnEmptyOne is P2 of no list.
func TestNoListIsAnEmptyOne(t *testing.T) {
	for _, l := range [][]api.Ent{nil, {}, full(3)[:0]} {
		refused(t, l, Stats(api.EHero), api.ErrFull)
		refused(t, l, Stats(0), api.ErrKind)
		checkAsked(t, l)
		if got := Free(l, 0); len(got) != 0 {
			t.Errorf("P502: Free in no rows: %+v", got)
		}
	}
}

// TestSameAlways is P3, asked by many at once.
func TestSameAlways(t *testing.T) {
	l := full(api.MaxEnts)
	l[20] = litter(254)
	spawned := checkSpawn(t, l, Stats(api.EMage), 20)
	freed := Free(spawned, 20)
	var all sync.WaitGroup
	for range 8 {
		all.Go(func() {
			for range 50 {
				got, row, err := Spawn(l, Stats(api.EMage))
				if err != api.OK || row != 20 || !slices.Equal(got, spawned) {
					t.Errorf("P3: Spawn: row %d, %v: %+v", row, err, got)
				}
				if again := Free(got, 20); !slices.Equal(again, freed) {
					t.Errorf("P3: Free: %+v", again)
				}
				if At(l, 104, 204) != 4 || Hero(l, 0) != 0 || Id(l, 4) != 4+32*28 || Of(l, 4+32*28) != 4 {
					t.Error("P3: another row is told")
				}
			}
		})
	}
	all.Wait()
}
