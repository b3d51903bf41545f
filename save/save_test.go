package save

import (
	"bytes"
	"math"
	"slices"
	"testing"

	"adit/api"
	"adit/crawl"
	"adit/disk"
	"adit/ents"
	"adit/snap"
)

// Campaigns.

// seatsOf are the seats whose bits a number has.
func seatsOf(bits int) [api.Seats]bool {
	return [api.Seats]bool{bits%2 == 1, bits/2%2 == 1, bits/4%2 == 1, bits/8%2 == 1}
}

// line are n campaigns, no two the same: a crawl frame by frame, moved by robots, the seats taken in each way that there is.
func line(n int) []Campaign {
	var l []Campaign
	w := crawl.New(int64(n))
	for i := range n {
		l = append(l, Campaign{World: w, Seats: seatsOf(i % 16)})
		var acts api.Acts
		for seat := range acts {
			acts[seat] = api.Act{How: api.Robot, Spawn: i == 3*seat}
		}
		w = crawl.Step(w, acts)
	}
	return l
}

// sample is a world with all kinds in it, and numbers at their edges.
func sample() api.World {
	w := api.World{Seed: -77, Frame: 1<<30 - 1, Floor: 3, State: api.Lost, Gold: [api.Seats]int{0, 258, 999, 7}}
	w.Cells = slices.Repeat([]byte{api.CFloor, api.CFloor, api.CDoor, api.CFloor, api.CShop, api.CFloor}, api.Cells/6)
	w.Cells[0], w.Cells[1], w.Cells[383] = api.CUp, api.CWall, api.CDown
	w.Ents = make([]api.Ent, api.MaxEnts)
	for n := range w.Ents {
		e := ents.Stats(1 + n%4)
		e.Gen, e.X, e.Y, e.Poison, e.Stun = 8*n+7, n%24, 5+n/24, n%10, 9-n%10
		if e.Kind == api.EHero {
			e.Seat = n / 4
		}
		if n < 16 || e.Kind != api.EHero {
			w.Ents[n] = e
		}
	}
	w.Ents[16].Gen = 255
	w.Items = make([]api.Item, api.MaxItems)
	copy(w.Items[1:], []api.Item{
		{Kind: api.IPotion, Where: api.WCell, A: 23, B: 15}, {Kind: api.IGold, Where: api.WCell, A: 0, B: 15}, {},
		{Kind: api.ISword, Where: api.WBag, A: 3, B: 3}, {Kind: api.ISword, Where: api.WWorn, A: 2}, {Kind: api.IMail, Where: api.WWorn, A: 2, B: 1},
	})
	w.Items[39] = api.Item{Kind: api.IMail, Where: api.WShop, A: 2}
	return w
}

// ordinary are worlds of several kinds that may be.
func ordinary() []api.World {
	worlds := []api.World{sample(), crawl.New(0), crawl.New(math.MinInt64), crawl.New(-1)}
	for _, c := range line(70)[1:] {
		if c.World.Frame%23 == 0 || c.World.Frame < 3 {
			worlds = append(worlds, c.World)
		}
	}
	return worlds
}

// fault is a world that may not be, and what snap.Check says of it.
type fault struct {
	what  string
	world api.World
	want  api.Errno
}

// faults are worlds that may not be: of each error that Check has.
func faults() []fault {
	but := func(what string, want api.Errno, change func(w *api.World)) fault {
		w := twin(sample())
		change(&w)
		return fault{what, w, want}
	}
	return []fault{
		{"no world", api.World{}, api.ErrArg},
		but("Frame -1", api.ErrArg, func(w *api.World) { w.Frame = -1 }),
		but("Frame 2^30", api.ErrArg, func(w *api.World) { w.Frame = 1 << 30 }),
		but("Floor 0", api.ErrArg, func(w *api.World) { w.Floor = 0 }),
		but("Floor 4", api.ErrArg, func(w *api.World) { w.Floor = 4 }),
		but("State 3", api.ErrArg, func(w *api.World) { w.State = 3 }),
		but("Gold 1000", api.ErrArg, func(w *api.World) { w.Gold[3] = 1000 }),
		but("Gold -1 and no cells", api.ErrArg, func(w *api.World) { w.Gold[0], w.Cells = -1, nil }),
		but("no cells", api.ErrMany, func(w *api.World) { w.Cells = nil }),
		but("a cell too few", api.ErrMany, func(w *api.World) { w.Cells = w.Cells[:383] }),
		but("an entity too many", api.ErrMany, func(w *api.World) { w.Ents = append(w.Ents, api.Ent{}) }),
		but("an item too few", api.ErrMany, func(w *api.World) { w.Items = w.Items[1:] }),
		but("a cell of no kind", api.ErrKind, func(w *api.World) { w.Cells[9] = 6 }),
		but("an entity of no kind", api.ErrKind, func(w *api.World) { w.Ents[9].Kind = 5 }),
		but("no up stair", api.ErrNone, func(w *api.World) { w.Cells[0] = api.CFloor }),
		but("two down stairs", api.ErrNone, func(w *api.World) { w.Cells[382] = api.CDown }),
		but("Gen 256", api.ErrBad, func(w *api.World) { w.Ents[31].Gen = 256 }),
		but("HP 0", api.ErrBad, func(w *api.World) { w.Ents[0].HP = 0 }),
		but("two heroes of a seat", api.ErrBad, func(w *api.World) { w.Ents[4].Seat = 0 }),
		but("two items in one place", api.ErrBad, func(w *api.World) { w.Items[0] = w.Items[1] }),
	}
}

// twin is the same world, with lists of its own.
func twin(w api.World) api.World {
	w.Cells, w.Ents, w.Items = slices.Clone(w.Cells), slices.Clone(w.Ents), slices.Clone(w.Items)
	return w
}

// same tells whether two campaigns are, by all that they have.
func same(a, b Campaign) bool {
	v, w := a.World, b.World
	return a.Seats == b.Seats && v.Seed == w.Seed && v.Frame == w.Frame && v.Floor == w.Floor && v.State == w.State && v.Gold == w.Gold &&
		slices.Equal(v.Cells, w.Cells) && slices.Equal(v.Ents, w.Ents) && slices.Equal(v.Items, w.Items)
}

// nothing tells whether a campaign is the zero value.
func nothing(c Campaign) bool {
	return same(c, Campaign{}) && c.World.Cells == nil && c.World.Ents == nil && c.World.Items == nil
}

// roomy is the same list in the midst of more; all is the whole of it.
func roomy[T any](l []T, around T) (in, all []T) {
	all = slices.Concat(slices.Repeat([]T{around}, 50), l, slices.Repeat([]T{around}, 50))
	return all[50 : 50+len(l)], all
}

// scrawl writes over a list, its spare room too.
func scrawl[T any](l []T, with T) {
	l = l[:cap(l)]
	for i := range l {
		l[i] = with
	}
}

// scrawlWorld writes over the lists of a world.
func scrawlWorld(w api.World) {
	scrawl(w.Cells, 0xAB)
	scrawl(w.Ents, api.Ent{Kind: -9, X: 77})
	scrawl(w.Items, api.Item{Kind: -8, A: 66})
}

// spacious is a campaign whose lists have room around them; stays tells whether these, with what is around them, are as they were.
func spacious(c Campaign) (in Campaign, stays func() bool) {
	var cells []byte
	var rows []api.Ent
	var items []api.Item
	in = c
	in.World.Cells, cells = roomy(c.World.Cells, byte(api.CDown))
	in.World.Ents, rows = roomy(c.World.Ents, api.Ent{Gen: 3})
	in.World.Items, items = roomy(c.World.Items, api.Item{Kind: api.IGold})
	wasCells, wasRows, wasItems := slices.Clone(cells), slices.Clone(rows), slices.Clone(items)
	return in, func() bool {
		return slices.Equal(cells, wasCells) && slices.Equal(rows, wasRows) && slices.Equal(items, wasItems)
	}
}

// Disks.

func made(t *testing.T, sectors int) *disk.Disk {
	t.Helper()
	d, err := disk.New(sectors)
	if err != api.OK {
		t.Fatalf("a disk of %d: %v", sectors, err)
	}
	return d
}

// out lets the power go, without a write.
func out(d *disk.Disk) {
	d.Cut(0)
	d.Write(0, make([]byte, api.Sector))
}

// image are all bytes of a disk whose power is there.
func image(t *testing.T, d *disk.Disk) []byte {
	t.Helper()
	var all []byte
	for n := range d.Sectors() {
		b, err := d.Read(n)
		if err != api.OK {
			t.Fatalf("sector %d: %v", n, err)
		}
		all = append(all, b...)
	}
	return all
}

// saved holds what Save answers against what it must, and that the campaign stays as it was.
func saved(t *testing.T, d *disk.Disk, c Campaign, want api.Errno) {
	t.Helper()
	in, stays := spacious(c)
	if err := Save(d, in); err != want {
		t.Errorf("P1402: Save: %v, not %v", err, want)
	}
	if !stays() {
		t.Error("P2: Save changed the campaign")
	}
}

// loaded holds what Load tells against what it must, whenever it is asked, and that it changes nothing.
func loaded(t *testing.T, d *disk.Disk, want Campaign) {
	t.Helper()
	writes, was := d.Writes(), image(t, d)
	for range 3 {
		if c, err := Load(d); err != api.OK || !same(c, want) {
			t.Errorf("P1402: Load: %v, frame %d, seats %v, not frame %d, seats %v", err, c.World.Frame, c.Seats, want.World.Frame, want.Seats)
		}
	}
	if d.Writes() != writes || d.Dead() || !bytes.Equal(image(t, d), was) {
		t.Error("P1402: Load wrote something")
	}
}

// unloaded holds the error of Load against what it must be, whenever it is asked.
func unloaded(t *testing.T, d *disk.Disk, want api.Errno) {
	t.Helper()
	writes, dead := d.Writes(), d.Dead()
	for range 3 {
		if c, err := Load(d); err != want || !nothing(c) {
			t.Errorf("P1402: Load: %v, not %v; beside it frame %d, seats %v", err, want, c.World.Frame, c.Seats)
		}
	}
	if d.Writes() != writes || d.Dead() != dead {
		t.Error("P1402: Load wrote something")
	}
}

// P1401.

// bytesOf are the bytes of a campaign that may be.
func bytesOf(t *testing.T, c Campaign) []byte {
	t.Helper()
	w, err := snap.Encode(c.World)
	if err != api.OK {
		t.Fatalf("a world that may not be: %v", err)
	}
	bits := 0
	for seat, bit := range []int{1, 2, 4, 8} {
		if c.Seats[seat] {
			bits += bit
		}
	}
	return append([]byte{byte(bits)}, w...)
}

func TestEncodeEachWay(t *testing.T) {
	for _, w := range ordinary() {
		for bits := range 16 {
			c := Campaign{World: w, Seats: seatsOf(bits)}
			want := bytesOf(t, c)
			if int(want[0]) != bits || len(want) != 919 {
				t.Fatal("the test is wrong")
			}
			for range 2 {
				if b, err := Encode(c); err != api.OK || !bytes.Equal(b, want) {
					t.Fatalf("P1401: seats %04b: %v, %x, not %x", bits, err, b, want)
				}
				if again, err := Decode(want); err != api.OK || !same(again, c) {
					t.Fatalf("P1401: seats %04b: %v, read again as %v, %+v", bits, err, again.Seats, again.World)
				}
			}
		}
	}
}

// TestEncodeWrittenOut: of one seat alone, the highest bit is the last seat's; the world's Seed comes next, its last item in the end.
func TestEncodeWrittenOut(t *testing.T) {
	b, err := Encode(Campaign{World: sample(), Seats: [api.Seats]bool{false, false, false, true}})
	if err != api.OK || !bytes.HasPrefix(b, []byte{8, 255, 255, 255, 255, 255, 255, 255, 179, 63, 255, 255, 255, 3, 2}) || !bytes.HasSuffix(b, []byte{3, 4, 2, 0}) {
		t.Errorf("P1401: %v, %x", err, b)
	}
	if b, err = Encode(Campaign{World: sample(), Seats: [api.Seats]bool{true}}); err != api.OK || b[0] != 1 {
		t.Errorf("P1401: %v, %x", err, b)
	}
}

func TestEncodeRefuses(t *testing.T) {
	seen := map[api.Errno]bool{}
	for _, f := range faults() {
		if got := snap.Check(f.world); got != f.want {
			t.Fatalf("%s: snap.Check says %v", f.what, got)
		}
		seen[f.want] = true
		for bits := range 16 {
			in, stays := spacious(Campaign{World: f.world, Seats: seatsOf(bits)})
			for range 2 {
				if b, err := Encode(in); err != f.want || len(b) != 0 {
					t.Errorf("P1401: %s: %d bytes, %v, not %v", f.what, len(b), err, f.want)
				}
			}
			if !stays() {
				t.Errorf("P2: %s: Encode changed the campaign", f.what)
			}
		}
	}
	for _, err := range []api.Errno{api.ErrArg, api.ErrMany, api.ErrKind, api.ErrNone, api.ErrBad} {
		if !seen[err] {
			t.Errorf("no world of %v", err)
		}
	}
}

// TestEncodeApart: the bytes are nobody else's, and the campaign stays.
func TestEncodeApart(t *testing.T) {
	c := Campaign{World: sample(), Seats: seatsOf(9)}
	want := bytesOf(t, c)
	in, stays := spacious(c)
	first, _ := Encode(in)
	second, _ := Encode(in)
	scrawl(second, 0x5B)
	if !stays() || !bytes.Equal(first, want) {
		t.Error("P2: bytes that Encode gave are those of the campaign, or of other bytes")
	}
	scrawlWorld(in.World)
	if !bytes.Equal(first, want) {
		t.Error("P2: bytes that Encode gave changed with the campaign")
	}
}

// undecoded holds the error of Decode against what it must be, and that the bytes stay as they were.
func undecoded(t *testing.T, what string, b []byte, want api.Errno) {
	t.Helper()
	in, all := roomy(b, 0x5B)
	was := slices.Clone(all)
	for range 2 {
		if c, err := Decode(in); err != want || !nothing(c) {
			t.Errorf("P1401: Decode: %s: %v, not %v; beside it seats %v, %+v", what, err, want, c.Seats, c.World)
		}
	}
	if !bytes.Equal(all, was) {
		t.Errorf("P2: %s: Decode changed the bytes", what)
	}
}

// TestDecodeFirst is the first byte, whatever it is, ahead of a world, of none, of a piece of one, and of one that may not be.
func TestDecodeFirst(t *testing.T) {
	undecoded(t, "nothing", nil, api.ErrCut)
	undecoded(t, "nothing", []byte{}, api.ErrCut)
	world := sample()
	b := bytesOf(t, Campaign{World: world})
	wrong := slices.Clone(b)
	wrong[13] = 4 // Floor
	for first := range 256 {
		b[0], wrong[0] = byte(first), byte(first)
		if first <= 15 {
			if c, err := Decode(b); err != api.OK || !same(c, Campaign{World: world, Seats: seatsOf(first)}) {
				t.Errorf("P1401: first byte %d: %v, %v", first, err, c.Seats)
			}
			undecoded(t, "a first byte alone", b[:1], api.ErrCut)
			undecoded(t, "a world cut off", b[:918], api.ErrCut)
			undecoded(t, "a byte behind", append(b, 0), api.ErrMore)
			undecoded(t, "a world that may not be", wrong, api.ErrArg)
			continue
		}
		for _, l := range [][]byte{b, b[:1], b[:2], b[:500], b[:918], append(b, 0), append(b, b...), wrong} {
			undecoded(t, "a first byte above 15", l, api.ErrBad)
		}
	}
}

// TestDecodeOtherLengths: cut off at any place, or with more behind.
func TestDecodeOtherLengths(t *testing.T) {
	for _, w := range []api.World{sample(), crawl.New(5)} {
		b := bytesOf(t, Campaign{World: w, Seats: seatsOf(5)})
		for n := range 919 {
			undecoded(t, "cut off", b[:n], api.ErrCut)
		}
		for _, n := range []int{1, 2, 63, 64, 417, 918, 919, 1 << 16} {
			for _, c := range []byte{0, 1, 255} {
				undecoded(t, "more behind", append(slices.Clone(b), slices.Repeat([]byte{c}, n)...), api.ErrMore)
			}
		}
		undecoded(t, "twice", append(slices.Clone(b), b...), api.ErrMore)
		b[13] = 0
		undecoded(t, "a world that may not be, and more", append(slices.Clone(b), 0), api.ErrMore)
		undecoded(t, "a world that may not be, cut off", b[:918], api.ErrCut)
	}
}

// TestDecodeTurned: each byte turned into others: what snap.Decode says of the world's.
func TestDecodeTurned(t *testing.T) {
	n := map[api.Errno]int{}
	for bits, w := range []api.World{sample(), crawl.New(5), line(40)[39].World} {
		b := bytesOf(t, Campaign{World: w, Seats: seatsOf(5 + bits)})
		for i := 1; i < len(b); i++ {
			was := b[i]
			for _, v := range []byte{0, 1, 2, 3, 4, 5, 6, 20, 128, 255, was + 1, was - 1, ^was} {
				b[i] = v
				want, err := snap.Decode(b[1:])
				n[err]++
				if err != api.OK {
					undecoded(t, "a byte turned", b, err)
					continue
				}
				c, got := Decode(b)
				if got != api.OK || !same(c, Campaign{World: want, Seats: seatsOf(5 + bits)}) {
					t.Fatalf("P1401: byte %d is %d: %v, %+v", i, v, got, c)
				}
				if again, got := Encode(c); got != api.OK || !bytes.Equal(again, b) {
					t.Fatalf("P1401: byte %d is %d: %v, written again as %x", i, v, got, again)
				}
			}
			b[i] = was
		}
	}
	for _, err := range []api.Errno{api.OK, api.ErrArg, api.ErrKind, api.ErrNone, api.ErrBad} {
		if n[err] < 10 {
			t.Errorf("%v: %d times only", err, n[err])
		}
	}
}

// TestDecodeApart: a campaign that Decode gave is nobody else's.
func TestDecodeApart(t *testing.T) {
	want := Campaign{World: sample(), Seats: seatsOf(6)}
	b, all := roomy(bytesOf(t, want), 0x5B)
	was := slices.Clone(all)
	first, _ := Decode(b)
	second, _ := Decode(b)
	scrawlWorld(second.World)
	if !same(first, want) || !bytes.Equal(all, was) {
		t.Error("P2: a campaign that Decode gave is that of other bytes, or the bytes'")
	}
	scrawl(all, 0xFF)
	if !same(first, want) {
		t.Error("P2: a campaign that Decode gave changed with the bytes")
	}
}

// P1402.

func TestNeed(t *testing.T) {
	if Need != 40 {
		t.Errorf("P1402: %d sectors", Need)
	}
}

// TestTooSmall: whatever the campaign is, and whether the power is there or not.
func TestTooSmall(t *testing.T) {
	good := Campaign{World: sample(), Seats: seatsOf(3)}
	for sectors := 1; sectors < 40; sectors++ {
		d := made(t, sectors)
		for _, c := range []Campaign{good, {}, {World: faults()[9].world}} {
			saved(t, d, c, api.ErrFull)
			unloaded(t, d, api.ErrFull)
			d.Cut(0)
			saved(t, d, c, api.ErrFull)
			if d.Dead() || d.Writes() != 0 || !bytes.Equal(image(t, d), make([]byte, 64*sectors)) {
				t.Errorf("P5: %d sectors: a Save that was refused changed something", sectors)
			}
			out(d)
			saved(t, d, c, api.ErrFull)
			unloaded(t, d, api.ErrFull)
			d.Start()
		}
	}
	var unmade disk.Disk
	saved(t, &unmade, good, api.ErrFull)
	unloaded(t, &unmade, api.ErrFull)
}

// TestLargeEnough: from 40 sectors on.
func TestLargeEnough(t *testing.T) {
	l := line(8)
	for _, sectors := range []int{40, 41, 42, 63, 64, 100, 1023, 1024} {
		d := made(t, sectors)
		unloaded(t, d, api.ErrNone)
		for _, c := range l {
			saved(t, d, c, api.OK)
			loaded(t, d, c)
		}
		if d.Sectors() != sectors || d.Dead() {
			t.Errorf("%d sectors: now %d, dead: %v", sectors, d.Sectors(), d.Dead())
		}
	}
}

// TestSaveOrdinary: what is saved is told, in each way in which seats may be taken; also where the same is saved twice, and what was saved earlier once more.
func TestSaveOrdinary(t *testing.T) {
	d := made(t, 40)
	for _, w := range ordinary() {
		for bits := range 16 {
			c := Campaign{World: w, Seats: seatsOf(bits)}
			for range 1 + bits%3 {
				saved(t, d, c, api.OK)
				loaded(t, d, c)
			}
		}
	}
	l := line(3)
	for _, n := range []int{0, 1, 0, 0, 1, 1, 2, 0, 2, 2, 2, 1} {
		saved(t, d, l[n], api.OK)
		loaded(t, d, l[n])
	}
}

// TestSaveMany: a campaign that is saved many times.
func TestSaveMany(t *testing.T) {
	d, l := made(t, 40), line(100)
	for n := range 1500 {
		if err := Save(d, l[n%100]); err != api.OK {
			t.Fatalf("P1402: Save %d: %v", n, err)
		}
		if c, err := Load(d); err != api.OK || !same(c, l[n%100]) {
			t.Fatalf("P1402: Save %d: %v, frame %d", n, err, c.World.Frame)
		}
	}
}

// TestSaveRefuses: a campaign that may not be; whatever is on the disk, and whether the power is there or not, nothing changes.
func TestSaveRefuses(t *testing.T) {
	l := line(4)
	for had := range l {
		d := made(t, 40)
		for _, c := range l[:had] {
			saved(t, d, c, api.OK)
		}
		told := func() {
			t.Helper()
			if had == 0 {
				unloaded(t, d, api.ErrNone)
			} else {
				loaded(t, d, l[had-1])
			}
		}
		was, writes := image(t, d), d.Writes()
		for i, f := range faults() {
			c := Campaign{World: f.world, Seats: seatsOf(i % 16)}
			saved(t, d, c, f.want)
			told()
			d.Cut(0)
			saved(t, d, c, f.want)
			if d.Dead() {
				t.Errorf("P5: %s: the power went", f.what)
			}
			told()
			out(d)
			saved(t, d, c, f.want)
			unloaded(t, d, api.ErrDead)
			d.Start()
			told()
			if d.Writes() != writes || !bytes.Equal(image(t, d), was) {
				t.Errorf("P5: %s: a Save that was refused changed something", f.what)
			}
		}
	}
}

// TestSaveCountsNoWrite: where the power is to go behind some writes, a Save that is refused is none of them.
func TestSaveCountsNoWrite(t *testing.T) {
	l := line(2)
	for _, n := range []int{0, 1, 2, 5} {
		d := made(t, 40)
		saved(t, d, l[0], api.OK)
		was := d.Writes()
		d.Cut(n)
		for _, f := range faults() {
			saved(t, d, Campaign{World: f.world}, f.want)
		}
		saved(t, d, l[1], api.ErrDead)
		if !d.Dead() || d.Writes()-was != n {
			t.Errorf("P5: %d writes, not %d", d.Writes()-was, n)
		}
	}
}

// TestSaveDead: the power is gone: nothing is written, and what counts does.
func TestSaveDead(t *testing.T) {
	l := line(5)
	d := made(t, 40)
	for had, c := range l {
		was, writes := image(t, d), d.Writes()
		out(d)
		for _, c := range l {
			saved(t, d, c, api.ErrDead)
			unloaded(t, d, api.ErrDead)
		}
		if d.Writes() != writes || !d.Dead() {
			t.Errorf("P1402: without power: %d writes, dead: %v", d.Writes()-writes, d.Dead())
		}
		d.Start()
		if !bytes.Equal(image(t, d), was) {
			t.Error("P5: a Save without power changed something")
		}
		if had == 0 {
			unloaded(t, d, api.ErrNone)
		} else {
			loaded(t, d, l[had-1])
		}
		saved(t, d, c, api.OK)
	}
	loaded(t, d, l[4])
}

// TestLoadOrder: ErrFull, then ErrDead, then ErrNone.
func TestLoadOrder(t *testing.T) {
	for _, sectors := range []int{1, 39, 40, 1024} {
		d := made(t, sectors)
		want := api.ErrNone
		if sectors < 40 {
			want = api.ErrFull
		}
		unloaded(t, d, want)
		out(d)
		if want == api.ErrNone {
			want = api.ErrDead
		}
		unloaded(t, d, want)
	}
}

// TestLoadWritesNothing: not even where the power is to go at the next write.
func TestLoadWritesNothing(t *testing.T) {
	l := line(4)
	d := made(t, 50)
	d.Cut(0)
	unloaded(t, d, api.ErrNone)
	d.Start()
	for _, c := range l {
		saved(t, d, c, api.OK)
		d.Cut(0)
		loaded(t, d, c)
		loaded(t, d, c)
		saved(t, d, l[0], api.ErrDead)
		d.Start()
		loaded(t, d, c)
	}
}

// TestSaveApart: the disk keeps nothing of what was handed in, and what Load told is nobody else's.
func TestSaveApart(t *testing.T) {
	l := line(6)
	d := made(t, 40)
	for _, c := range l {
		in := Campaign{World: twin(c.World), Seats: c.Seats}
		if err := Save(d, in); err != api.OK {
			t.Fatal(err)
		}
		scrawlWorld(in.World)
		loaded(t, d, c)
		first, _ := Load(d)
		second, _ := Load(d)
		scrawlWorld(second.World)
		if !same(first, c) {
			t.Error("P2: two answers of Load share something")
		}
		loaded(t, d, c)
		saved(t, d, l[0], api.OK)
		if !same(first, c) {
			t.Error("P2: what Load told changed with a Save")
		}
		saved(t, d, c, api.OK)
	}
}

// TestSavesAlike: the same calls on two disks answer the same, and write as much (P3); one disk has nothing of another (P7).
func TestSavesAlike(t *testing.T) {
	l := line(9)
	a, b, other := made(t, 40), made(t, 40), made(t, 40)
	saved(t, other, l[8], api.OK)
	for i, c := range l {
		for _, cut := range []int{-1, i, 3 * i, -1} {
			a.Cut(cut)
			b.Cut(cut)
			if x, y := Save(a, c), Save(b, c); x != y || a.Writes() != b.Writes() {
				t.Errorf("P3: %v with %d writes, and %v with %d", x, a.Writes(), y, b.Writes())
			}
			a.Start()
			b.Start()
			if !bytes.Equal(image(t, a), image(t, b)) {
				t.Error("P3: not the same on two disks")
			}
		}
	}
	loaded(t, other, l[8])
}

// TestNoStore: disks that are no store's: every call ends, and beside an error there is nothing (P1, P4).
func TestNoStore(t *testing.T) {
	c := Campaign{World: sample(), Seats: seatsOf(15)}
	try := func(d *disk.Disk) {
		t.Helper()
		if got, err := Load(d); err != api.OK && !nothing(got) {
			t.Errorf("P4: %v, and a campaign", err)
		}
	}
	for mark := range 256 {
		for _, fill := range []byte{0, 1, 255} {
			for at := range 40 {
				d := made(t, 40)
				for n := range 40 {
					d.Write(n, slices.Repeat([]byte{fill}, 64))
				}
				d.Write(at, append([]byte{byte(mark)}, slices.Repeat([]byte{fill}, 63)...))
				try(d)
				if at%8 == 0 {
					Save(d, c)
					try(d)
				}
			}
		}
	}
}
