package snap

import (
	"bytes"
	"encoding/binary"
	"hash/fnv"
	"math"
	"math/rand/v2"
	"slices"
	"sync"
	"testing"

	"adit/api"
	"adit/crawl"
	"adit/minds"
)

// What the words say, gone through in the plainest way.

// checked is P1101.
func checked(w api.World) api.Errno {
	if w.Frame < 0 || w.Frame > 1073741823 || w.Floor < 1 || w.Floor > 3 || w.State < 0 || w.State > 2 || slices.Min(w.Gold[:]) < 0 || slices.Max(w.Gold[:]) > 999 {
		return api.ErrArg
	}
	if len(w.Cells) != 384 || len(w.Ents) != 32 || len(w.Items) != 40 {
		return api.ErrMany
	}
	kinds := [256]int{}
	for _, kind := range w.Cells {
		kinds[kind]++
	}
	switch {
	case slices.Max(kinds[6:]) > 0:
		return api.ErrKind
	case kinds[3] != 1 || kinds[4] != 1:
		return api.ErrNone
	}
	for n, e := range w.Ents {
		switch {
		case e.Kind < 0 || e.Kind > 4:
			return api.ErrKind
		case e.Gen < 0 || e.Gen > 255:
			return api.ErrBad
		case e.Kind == 0 && e != api.Ent{Gen: e.Gen}:
			return api.ErrBad
		case e.Kind != 0 && !entMayBe(w, e, w.Ents[:n]):
			return api.ErrBad
		}
	}
	if !itemsMayBe(w) {
		return api.ErrBad
	}
	return api.OK
}

// walkable tells whether a place is a cell that can be walked on.
func walkable(w api.World, x, y int) bool {
	return x >= 0 && x < 24 && y >= 0 && y < 16 && w.Cells[y*24+x] >= 1 && w.Cells[y*24+x] <= 5
}

// entMayBe is what P1101 says of an entity that is not free, with some rows ahead of it.
func entMayBe(w api.World, e api.Ent, ahead []api.Ent) bool {
	stats := [5][3]int{1: {20, 5, 1}, 2: {4, 2, 0}, 3: {9, 4, 1}, 4: {6, 3, 0}}[e.Kind]
	for _, o := range ahead {
		if o.Kind != 0 && o.X == e.X && o.Y == e.Y || o.Kind == 1 && e.Kind == 1 && o.Seat == e.Seat {
			return false
		}
	}
	return walkable(w, e.X, e.Y) && e.HP >= 1 && e.HP <= e.Max && [3]int{e.Max, e.Atk, e.Def} == stats &&
		e.Poison >= 0 && e.Poison <= 9 && e.Stun >= 0 && e.Stun <= 9 && e.Seat >= 0 && e.Seat <= 3 && (e.Kind == 1 || e.Seat == 0)
}

// itemsMayBe is chapter 7's Check.
func itemsMayBe(w api.World) bool {
	taken := map[[3]int]bool{}
	for _, i := range w.Items {
		if i == (api.Item{}) {
			continue
		}
		where := [3]int{i.Where, i.A, i.B}
		if i.Kind < 1 || i.Kind > 4 || taken[where] {
			return false
		}
		taken[where] = true
		seat := i.A >= 0 && i.A <= 3
		switch {
		case i.Where == 1 && walkable(w, i.A, i.B):
		case i.Where == 2 && seat && i.B >= 0 && i.B <= 3 && i.Kind != 4:
		case i.Where == 3 && seat && (i.Kind == 2 && i.B == 0 || i.Kind == 3 && i.B == 1):
		case i.Where == 4 && i.A >= 0 && i.A <= 2 && i.B == 0 && i.Kind != 4:
		default:
			return false
		}
	}
	return true
}

// bytesOf is P1102.
func bytesOf(w api.World) []byte {
	b := binary.BigEndian.AppendUint64(nil, uint64(w.Seed))
	b = binary.BigEndian.AppendUint32(b, uint32(w.Frame))
	b = append(b, byte(w.Floor), byte(w.State))
	for _, gold := range w.Gold {
		b = binary.BigEndian.AppendUint16(b, uint16(gold))
	}
	b = append(b, w.Cells...)
	for _, e := range w.Ents {
		for _, v := range []int{e.Kind, e.Gen, e.Seat, e.X, e.Y, e.HP, e.Max, e.Atk, e.Def, e.Poison, e.Stun} {
			b = append(b, byte(v))
		}
	}
	for _, i := range w.Items {
		for _, v := range []int{i.Kind, i.Where, i.A, i.B} {
			b = append(b, byte(v))
		}
	}
	return b
}

// worldOf is the world that 918 bytes say.
func worldOf(b []byte) api.World {
	w := api.World{Seed: int64(binary.BigEndian.Uint64(b)), Frame: int(binary.BigEndian.Uint32(b[8:])), Floor: int(b[12]), State: int(b[13])}
	for seat := range w.Gold {
		w.Gold[seat] = int(binary.BigEndian.Uint16(b[14+2*seat:]))
	}
	w.Cells = slices.Clone(b[22:406])
	for row := range slices.Chunk(b[406:758], 11) {
		e := api.Ent{}
		for i, v := range []*int{&e.Kind, &e.Gen, &e.Seat, &e.X, &e.Y, &e.HP, &e.Max, &e.Atk, &e.Def, &e.Poison, &e.Stun} {
			*v = int(row[i])
		}
		w.Ents = append(w.Ents, e)
	}
	for row := range slices.Chunk(b[758:], 4) {
		w.Items = append(w.Items, api.Item{Kind: int(row[0]), Where: int(row[1]), A: int(row[2]), B: int(row[3])})
	}
	return w
}

// summed is P1103's number of bytes.
func summed(b []byte) uint64 {
	sum := fnv.New64a()
	sum.Write(b)
	return sum.Sum64()
}

// rowsOf is P1104's Rows, of worlds that may be: by their bytes.
func rowsOf(v, w api.World) []api.Row {
	a, b := bytesOf(v), bytesOf(w)
	var l []api.Row
	if !bytes.Equal(a[:22], b[:22]) {
		l = append(l, api.Row{Kind: 0})
	}
	if !bytes.Equal(a[22:406], b[22:406]) {
		l = append(l, api.Row{Kind: 1})
	}
	for n := range 32 {
		if from := 406 + 11*n; !bytes.Equal(a[from:from+11], b[from:from+11]) {
			l = append(l, api.Row{Kind: 2, N: n})
		}
	}
	for n := range 40 {
		if from := 758 + 4*n; !bytes.Equal(a[from:from+4], b[from:from+4]) {
			l = append(l, api.Row{Kind: 3, N: n})
		}
	}
	return l
}

// checkWords holds P1101 to P1103, and P1105, of any world.
func checkWords(t *testing.T, w api.World) api.Errno {
	t.Helper()
	want := checked(w)
	b, err := Encode(w)
	if got := Check(w); got != want || err != want {
		t.Fatalf("P1101: %v, Encode %v, not %v: %+v", got, err, want, w)
	}
	if want != api.OK {
		if len(b) != 0 || Digest(w) != 0 {
			t.Fatalf("P4: %v, but %d bytes, digest %x", want, len(b), Digest(w))
		}
		return want
	}
	if !bytes.Equal(b, bytesOf(w)) {
		t.Fatalf("P1102: %x, not %x", b, bytesOf(w))
	}
	if got := Digest(w); got != summed(b) {
		t.Fatalf("P1103: digest %x, not %x", got, summed(b))
	}
	if v, err := Decode(b); err != api.OK || !same(v, w) || !Same(v, w) || !Same(w, v) {
		t.Fatalf("P1105: %v, %+v becomes %+v", err, w, v)
	}
	return want
}

// Worlds by chance.

// anyWorld is one that may be: a cave with heroes, monsters and items wherever they may be.
func anyWorld(r *rand.Rand) api.World {
	w := api.World{Seed: int64(r.Uint64()), Frame: r.IntN(1 << 30), Floor: 1 + r.IntN(3), State: r.IntN(3)}
	for seat := range w.Gold {
		w.Gold[seat] = r.IntN(1000)
	}
	walls := r.IntN(10)
	for range api.Cells {
		w.Cells = append(w.Cells, []byte{api.CWall, api.CFloor, api.CFloor, api.CDoor, api.CShop}[min(4, max(0, r.IntN(10)-walls))])
	}
	stairs := r.Perm(api.Cells)
	w.Cells[stairs[0]], w.Cells[stairs[1]] = api.CUp, api.CDown
	places := r.Perm(api.Cells)
	for range api.MaxEnts {
		w.Ents = append(w.Ents, api.Ent{Gen: r.IntN(256)})
	}
	heroes, rows := r.IntN(16), r.Perm(api.MaxEnts)
	for i, n := range rows[:r.IntN(33)] {
		e := fresh(2+r.IntN(3), places[i]%24, places[i]/24)
		if i < 4 && heroes>>i&1 == 1 {
			e = fresh(api.EHero, e.X, e.Y)
			e.Seat = i
		}
		if walkable(w, e.X, e.Y) {
			e.Gen, e.HP, e.Poison, e.Stun = r.IntN(256), 1+r.IntN(e.Max), r.IntN(10), r.IntN(10)
			w.Ents[n] = e
		}
	}
	w.Items = make([]api.Item, api.MaxItems)
	for n := range r.IntN(41) {
		was := w.Items[n]
		if w.Items[n] = anyItem(r); !itemsMayBe(w) {
			w.Items[n] = was
		}
	}
	return w
}

// anyItem is one that may be more often than not.
func anyItem(r *rand.Rand) api.Item {
	kind := 1 + r.IntN(4)
	return []api.Item{
		{Kind: kind, Where: 1, A: r.IntN(24), B: r.IntN(16)}, {Kind: kind, Where: 2, A: r.IntN(4), B: r.IntN(4)},
		{Kind: kind, Where: 3, A: r.IntN(4), B: r.IntN(2)}, {Kind: kind, Where: 4, A: r.IntN(3)},
	}[r.IntN(4)]
}

// odd is a number at some edge, or any.
func odd(r *rand.Rand) int {
	return []int{r.IntN(12) - 1, r.IntN(12) - 1, r.IntN(26), 19 + r.IntN(3), 254 + r.IntN(4), 998 + r.IntN(4), 1<<30 + r.IntN(3) - 2, math.MaxInt, math.MinInt, int(r.Uint64())}[r.IntN(10)]
}

// spoilt is a world with another number somewhere; it may be still.
func spoilt(w api.World, r *rand.Rand) api.World {
	return but(w, func(w *api.World) {
		e, i := &w.Ents[r.IntN(len(w.Ents))], &w.Items[r.IntN(len(w.Items))]
		o := w.Ents[r.IntN(len(w.Ents))]
		switch r.IntN(16) {
		case 0:
			*[]*int{&w.Frame, &w.Floor, &w.State, &w.Gold[r.IntN(4)]}[r.IntN(4)] = odd(r)
		case 1:
			switch r.IntN(6) {
			case 0:
				w.Cells = w.Cells[:len(w.Cells)-1]
			case 1:
				w.Ents = w.Ents[1:]
			case 2:
				w.Items = w.Items[1:]
			case 3:
				w.Cells = append(w.Cells, 1)
			case 4:
				w.Ents = append(w.Ents, api.Ent{})
			default:
				w.Items = append(w.Items, api.Item{})
			}
		case 2, 3:
			w.Cells[r.IntN(len(w.Cells))] = byte(r.IntN(8))
		case 4, 5:
			*[]*int{&i.Kind, &i.Where, &i.A, &i.B}[r.IntN(4)] = odd(r)
		case 6:
			*i = anyItem(r)
		case 7:
			e.Kind = odd(r)
		case 8:
			e.X, e.Y = o.X, o.Y
		case 9:
			e.Kind, e.Seat = o.Kind, o.Seat
		case 10:
			*e = fresh(r.IntN(5), r.IntN(24), r.IntN(16))
		case 11:
			e.Gen = odd(r)
		default:
			*[]*int{&e.Seat, &e.X, &e.Y, &e.HP, &e.Max, &e.Atk, &e.Def, &e.Poison, &e.Stun}[r.IntN(9)] = odd(r)
		}
	})
}

// TestWorldsByChance is P1101 to P1103, and P1105, as the words say, of worlds that may be, and of such with some numbers spoilt.
func TestWorldsByChance(t *testing.T) {
	r := rand.New(rand.NewPCG(11, 1))
	n := map[api.Errno]int{}
	for range 3000 {
		w := anyWorld(r)
		if err := checkWords(t, w); err != api.OK {
			t.Fatalf("a world by chance may not be: %v", err)
		}
		for range 4 {
			w = spoilt(w, r)
			n[checkWords(t, w)]++
			if len(w.Ents) == 0 || len(w.Cells) == 0 || len(w.Items) == 0 {
				break
			}
		}
	}
	for _, err := range []api.Errno{api.OK, api.ErrArg, api.ErrMany, api.ErrKind, api.ErrNone, api.ErrBad} {
		if n[err] < 100 {
			t.Errorf("%v: %d times only", err, n[err])
		}
	}
}

// TestEachByte is P1102: each byte of a world that is another one says another world, or none.
func TestEachByte(t *testing.T) {
	r := rand.New(rand.NewPCG(11, 2))
	n := map[api.Errno]int{}
	for _, w := range []api.World{sample(), anyWorld(r), crawl.New(9)} {
		b := bytesOf(w)
		for i, was := range b {
			for _, v := range []byte{0, 1, 2, 3, 4, 5, 6, 9, 10, 15, 16, 23, 24, 64, 128, 255, was + 1, was - 1, byte(r.IntN(256))} {
				b[i] = v
				want := worldOf(b)
				err := checked(want)
				n[err]++
				if err != api.OK {
					checkBytesRefused(t, "a byte that is another one", b, err)
				} else if got, e := Decode(b); e != api.OK || !same(got, want) {
					t.Fatalf("P1102: byte %d is %d: %v", i, v, e)
				}
			}
			b[i] = was
		}
	}
	for _, err := range []api.Errno{api.OK, api.ErrArg, api.ErrKind, api.ErrNone, api.ErrBad} {
		if n[err] < 50 {
			t.Errorf("%v: %d times only", err, n[err])
		}
	}
}

// TestRowsByChance is P1104's Rows, of any two worlds that may be, and of such that differ in little.
func TestRowsByChance(t *testing.T) {
	r := rand.New(rand.NewPCG(11, 3))
	for range 1500 {
		a := anyWorld(r)
		for _, b := range []api.World{anyWorld(r), nearBy(a, r), a} {
			want := rowsOf(a, b)
			if got := Rows(a, b); !slices.Equal(got, want) {
				t.Fatalf("P1104: Rows: %v, not %v", got, want)
			}
			if Same(a, b) != (len(want) == 0) || Same(b, a) != (len(want) == 0) {
				t.Fatalf("P1103: Same: %t, with rows %v", Same(a, b), want)
			}
			ring := newRing(t, 1)
			if got := ring.Push(a, b); got != len(want) || ring.Stored() != len(want) {
				t.Fatalf("P1104: Push: %d, Stored %d, with rows %v", got, ring.Stored(), want)
			}
			if w, err := ring.Back(b, 1); err != api.OK || !same(w, a) {
				t.Fatalf("P1105: Back of Push: %v, %+v, not %+v", err, w, a)
			}
		}
	}
}

// nearBy is a world that may be, with some changes at most.
func nearBy(w api.World, r *rand.Rand) api.World {
	for range r.IntN(6) {
		if v := spoilt(w, r); checked(v) == api.OK {
			w = v
		}
	}
	return w
}

// TestRingByChance is P1104's ring against the worlds themselves: pushes, and ways back, some too far.
func TestRingByChance(t *testing.T) {
	r := rand.New(rand.NewPCG(11, 4))
	var far, back, full int
	for range 60 {
		most := 1 + r.IntN(64)
		ring := newRing(t, most)
		worlds, rows := []api.World{anyWorld(r)}, []int{}
		for range 150 {
			now := worlds[len(worlds)-1]
			if r.IntN(5) > 0 {
				next := nearBy(now, r)
				if r.IntN(12) == 0 {
					next = anyWorld(r)
				}
				count := len(rowsOf(now, next))
				if got := ring.Push(now, next); got != count {
					t.Fatalf("P1104: Push: %d, not %d", got, count)
				}
				worlds, rows = append(worlds, next), append(rows, count)
				if len(rows) > most {
					worlds, rows = worlds[1:], rows[1:]
					full++
				}
			} else if n := r.IntN(min(8, len(rows)+4)) - 1; n < 0 || n > len(rows) {
				checkTooFar(t, ring, now, n)
				far++
			} else {
				worlds, rows = worlds[:len(worlds)-n], rows[:len(rows)-n]
				if w, err := ring.Back(now, n); err != api.OK || !same(w, worlds[len(worlds)-1]) {
					t.Fatalf("P1104: Back(%d): %v", n, err)
				}
				back++
			}
			stored := 0
			for _, n := range rows {
				stored += n
			}
			if checkRing(t, "by chance", ring, len(rows), stored); r.IntN(15) == 0 {
				checkKept(t, ring, worlds)
			}
		}
	}
	if far < 100 || back < 100 || full < 100 {
		t.Errorf("%d too far, %d back, %d of a full ring only", far, back, full)
	}
}

// checkKept holds what a ring keeps of its frames against their worlds, which is T6: nothing that did not change, all else once, as it was.
func checkKept(t *testing.T, r *Ring, worlds []api.World) {
	t.Helper()
	for i, frame := range r.frames {
		old, now := worlds[i], worlds[i+1]
		var parts []api.Row
		for _, part := range frame {
			parts = append(parts, told(part))
			w := twinOf(now)
			part.put(&w)
			if len(rowsOf(w, now)) != 1 || len(rowsOf(old, w)) != len(frame)-1 {
				t.Fatalf("P1105, T6: of frame %d something is kept that did not change, or not as it was: %v", i, told(part))
			}
		}
		if !slices.Equal(parts, rowsOf(old, now)) {
			t.Fatalf("P1104: of frame %d these are kept: %v, not %v", i, parts, rowsOf(old, now))
		}
	}
	for _, frame := range r.frames[len(r.frames):cap(r.frames)] {
		if frame != nil {
			t.Fatal("LANGUAGE 8: a frame that was let go is kept behind the list")
		}
	}
}

// P1105: crawls.

// cast are the acts of a frame: seats come now and then; players want this and that, and most of the time what a robot would.
func cast(r *rand.Rand, w api.World, hows [4]int) api.Acts {
	var a api.Acts
	for seat, how := range hows {
		a[seat] = api.Act{How: how, Input: r.IntN(11), Spawn: how != api.Absent && (w.Frame == 0 || r.IntN(40) == 0)}
		if how == api.Player && r.IntN(3) > 0 {
			a[seat].Input = minds.Robot(w, seat)
		}
	}
	return a
}

// TestCrawls: over many frames, with players and robots, down the floors, each world is read as it was written, and taken back, frame by frame, to what it was.
func TestCrawls(t *testing.T) {
	r := rand.New(rand.NewPCG(11, 5))
	floors, states, kinds := [4]int{}, [3]int{}, [4]int{}
	for seed := range int64(36) {
		hows := [][4]int{{2, 0, 0, 0}, {1, 0, 0, 2}, {2, 2, 2, 2}, {1, 1, 1, 1}, {0, 1, 2, 0}, {1, 2, 1, 2}}[seed%6]
		worlds := []api.World{crawl.New(seed<<40 - 15)}
		most := []int{1, 6, 9, 64}[seed%4]
		ring, whole := newRing(t, most), newRing(t, 64)
		for f := 0; f < 400 && (worlds[f].State == api.Running || r.IntN(4) > 0); f++ {
			old := worlds[f]
			now := crawl.Step(old, cast(r, old, hows))
			if err := checkWords(t, now); err != api.OK {
				t.Fatalf("P1101: seed %d, frame %d: %v", old.Seed, now.Frame, err)
			}
			want := rowsOf(old, now)
			for _, part := range want {
				kinds[part.Kind]++
			}
			if n, m := ring.Push(old, now), whole.Push(old, now); n != len(want) || m != n || !slices.Equal(Rows(old, now), want) {
				t.Fatalf("P1104: seed %d, frame %d: %d rows, not %v", old.Seed, now.Frame, n, want)
			}
			worlds = append(worlds, now)
			if r.IntN(20) == 0 {
				checkRollback(t, r, ring, worlds)
			}
		}
		last := worlds[len(worlds)-1]
		floors[last.Floor]++
		states[last.State]++
		checkFrameByFrame(t, whole, worlds)
	}
	if slices.Min(floors[1:]) == 0 || states[api.Won] == 0 || states[api.Lost] == 0 || slices.Min(kinds[:]) < 20 {
		t.Errorf("crawls ended on floors %v, in states %v, with rows of kinds %v", floors, states, kinds)
	}
}

// checkRollback takes the last world back by some frames and makes these anew, as they were.
func checkRollback(t *testing.T, r *rand.Rand, ring *Ring, worlds []api.World) {
	t.Helper()
	now := len(worlds) - 1
	n, length, stored := r.IntN(ring.Len()+1), ring.Len(), ring.Stored()
	w, err := ring.Back(worlds[now], n)
	if err != api.OK || !same(w, worlds[now-n]) || Digest(w) != Digest(worlds[now-n]) {
		t.Fatalf("P1105: back from frame %d by %d: %v", now, n, err)
	}
	for f := now - n; f < now; f++ {
		ring.Push(worlds[f], worlds[f+1])
	}
	checkRing(t, "back and on again", ring, length, stored)
}

// checkFrameByFrame takes the last world back, one frame at a time, as far as the ring reaches.
func checkFrameByFrame(t *testing.T, ring *Ring, worlds []api.World) {
	t.Helper()
	w := worlds[len(worlds)-1]
	for f := len(worlds) - 2; ring.Len() > 0; f-- {
		stored := ring.Stored() - len(rowsOf(worlds[f], worlds[f+1]))
		v, err := ring.Back(w, 1)
		if err != api.OK || !same(v, worlds[f]) {
			t.Fatalf("P1105: frame %d, taken back: %v", f, err)
		}
		checkRing(t, "a frame less", ring, ring.Len(), stored)
		w = v
	}
	checkRing(t, "all frames taken back", ring, 0, 0)
	if want := max(0, len(worlds)-1-64); w.Frame != want {
		t.Errorf("P1104: taken back to frame %d, not %d", w.Frame, want)
	}
}

// What holds everywhere.

// TestHandedInStays is P2, and P3: worlds and bytes that are handed in stay, their spare room too; answers share nothing with them, nor with each other.
func TestHandedInStays(t *testing.T) {
	r := rand.New(rand.NewPCG(11, 6))
	for range 200 {
		v, vWhole := spare(anyWorld(r))
		w, wWhole := spare(nearBy(v, r))
		vWas, wWas := twinOf(vWhole), twinOf(wWhole)
		Check(v)
		Same(v, w)
		b, _ := Encode(v)
		again, _ := Encode(v)
		rows, twice := Rows(v, w), Rows(v, w)
		if !bytes.Equal(b, again) || Digest(v) != Digest(v) || !slices.Equal(rows, twice) || !same(Twin(v), Twin(v)) {
			t.Fatal("P3: the same call answers something else")
		}
		fill(again, 99)
		fill(twice, api.Row{Kind: 99})
		if !bytes.Equal(b, bytesOf(v)) || !slices.Equal(rows, rowsOf(v, w)) {
			t.Fatal("P2: two answers share memory")
		}
		if !same(vWhole, vWas) || !same(wWhole, wWas) {
			t.Fatal("P2: a world that was handed in is another one, or its spare room is")
		}
		room := append(b, 1, 2, 3)
		kept := slices.Clone(room)
		one, _ := Decode(room[:918])
		two, _ := Decode(room[:918])
		if !same(one, v) || !same(two, v) || !bytes.Equal(room, kept) {
			t.Fatal("P2, P3: Decode changed its bytes, or answers something else the second time")
		}
		if spoil(one); !same(two, v) || !bytes.Equal(room, kept) {
			t.Fatal("P2: an answer of Decode shares memory with its bytes, or with another one")
		}
		fill(room, 77)
		if !same(two, v) {
			t.Fatal("P2: Decode keeps the bytes that were handed in")
		}
		b, _ = Encode(v)
		if spoil(v); !bytes.Equal(b, kept[:918]) {
			t.Fatal("P2: Encode keeps the world that was handed in")
		}
	}
}

// TestSameAlways is P3, asked by many at once, each with a ring of its own.
func TestSameAlways(t *testing.T) {
	r := rand.New(rand.NewPCG(11, 7))
	worlds := []api.World{anyWorld(r)}
	for range 40 {
		worlds = append(worlds, nearBy(worlds[len(worlds)-1], r))
	}
	var several sync.WaitGroup
	for range 8 {
		several.Go(func() {
			ring, _ := NewRing(40)
			for i, w := range worlds[1:] {
				b, _ := Encode(w)
				if v, err := Decode(b); err != api.OK || !Same(v, w) || Digest(v) != summed(bytesOf(w)) || ring.Push(worlds[i], w) != len(rowsOf(worlds[i], w)) {
					t.Error("P3: the same calls answer something else")
				}
			}
			if w, err := ring.Back(Twin(worlds[40]), 40); err != api.OK || !Same(w, worlds[0]) {
				t.Errorf("P3: Back: %v", err)
			}
		})
	}
	several.Wait()
}

// junk is a world that most likely may not be: any numbers, lists of any lengths.
func junk(r *rand.Rand) api.World {
	w := api.World{Seed: int64(r.Uint64()), Frame: odd(r), Floor: odd(r), State: odd(r), Gold: [4]int{odd(r), odd(r), odd(r), odd(r)}}
	if r.IntN(2) == 0 {
		w.Frame, w.Floor, w.State, w.Gold = 1, 1, 1, [4]int{}
	}
	for range []int{r.IntN(500), 384}[r.IntN(2)] {
		w.Cells = append(w.Cells, byte(r.IntN(7)))
	}
	for range []int{r.IntN(50), 32}[r.IntN(2)] {
		w.Ents = append(w.Ents, api.Ent{Kind: odd(r), Gen: odd(r), Seat: odd(r), X: odd(r), Y: odd(r), HP: odd(r), Max: odd(r), Atk: odd(r), Def: odd(r), Poison: odd(r), Stun: odd(r)})
	}
	for range []int{r.IntN(60), 40}[r.IntN(2)] {
		w.Items = append(w.Items, api.Item{Kind: odd(r), Where: odd(r), A: odd(r), B: odd(r)})
	}
	return w
}

// TestAnyWorld is P1, P2 and P8 of worlds that may not be: every call ends and leaves what it was given, and what it keeps and answers is apart from it.
func TestAnyWorld(t *testing.T) {
	r := rand.New(rand.NewPCG(11, 8))
	for range 400 {
		ring := newRing(t, 1+r.IntN(64))
		for range 12 {
			v, vWhole := spare(junk(r))
			w, wWhole := spare([]api.World{junk(r), anyWorld(r), {}, v}[r.IntN(4)])
			vWas, wWas := twinOf(vWhole), twinOf(wWhole)
			checkWords(t, v)
			if !Same(Twin(v), v) || Same(v, w) != same(v, w) {
				t.Fatal("P1103: Same or Twin of a world that may not be")
			}
			Rows(v, w)
			Rows(w, v)
			ring.Push(v, w)
			ring.Push(w, v)
			got, _ := ring.Back([]api.World{v, w}[r.IntN(2)], r.IntN(5)-1)
			if spoil(got); !same(vWhole, vWas) || !same(wWhole, wWas) {
				t.Fatal("P2: a world that may not be was changed, or an answer shares memory with it")
			}
		}
		// What was pushed ahead of it does not bear on what may be.
		a, b := anyWorld(r), anyWorld(r)
		ring.Push(a, b)
		if w, err := ring.Back(b, 1); err != api.OK || !same(w, a) {
			t.Fatalf("P1105: Back of Push, behind worlds that may not be: %v", err)
		}
	}
}

// TestAnyBytes is P1 of Decode: any bytes end in an error or in a world that is written as they are.
func TestAnyBytes(t *testing.T) {
	r := rand.New(rand.NewPCG(11, 9))
	for range 3000 {
		b := make([]byte, []int{r.IntN(2000), 918, 917, 919}[r.IntN(4)])
		for i := range b {
			b[i] = byte(r.IntN(1 + r.IntN(256)))
		}
		want := map[bool]api.Errno{true: api.ErrCut, false: api.ErrMore}[len(b) < 918]
		if len(b) == 918 {
			want = checked(worldOf(b))
		}
		if want != api.OK {
			checkBytesRefused(t, "any bytes", b, want)
		}
	}
}

// TestEmptyRing: a ring that no face made keeps nothing, and ends all the same.
func TestEmptyRing(t *testing.T) {
	var r Ring
	if n := r.Push(sample(), plain()); n != len(rowsOf(sample(), plain())) {
		t.Errorf("P1: Push: %d rows", n)
	}
	checkRing(t, "a ring that no face made", &r, 0, 0)
	checkTooFar(t, &r, plain(), 1)
}

// TestLine holds that the worlds of lineOf may be.
func TestLine(t *testing.T) {
	for f, w := range lineOf(70) {
		if err := checkWords(t, w); err != api.OK {
			t.Errorf("world %d: %v", f, err)
		}
	}
}
