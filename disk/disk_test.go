package disk

import (
	"bytes"
	"math"
	"slices"
	"testing"

	"adit/api"
)

// far are numbers that are those of no sector of any disk, and no count of sectors either.
var far = []int{math.MinInt, math.MinInt + 1, -1 << 32, -1025, -1024, -64, -2, -1, 1025, 1026, 2048, 1 << 16, 1 << 32, 1<<32 + 1, math.MaxInt - 1, math.MaxInt}

// page are the bytes of a sector by a number: those of two numbers (of up to 65536) are not the same.
func page(c int) []byte {
	b := make([]byte, 64)
	for i := range b {
		b[i] = byte(c*(i+1) + i + c>>8*(63-i))
	}
	b[0], b[63] = byte(c), byte(c>>8)
	return b
}

func noughts() []byte { return make([]byte, 64) }

// roomy are n bytes in the midst of more: what is behind them is their spare room. all tells the whole of it.
func roomy(n int) (b, all []byte) {
	all = slices.Repeat([]byte{0x5B}, n+200)
	return all[100 : 100+n], all
}

// scrawl writes over bytes, their spare room too.
func scrawl(b []byte) {
	b = b[:cap(b)]
	for i := range b {
		b[i] ^= 0xFF
	}
}

func made(t *testing.T, sectors int) *Disk {
	t.Helper()
	d, err := New(sectors)
	if err != api.OK || d == nil {
		t.Fatalf("P1301: %d sectors: %v", sectors, err)
	}
	return d
}

// write holds what Write answers against what it must, and that the bytes stay as they were.
func write(t *testing.T, d *Disk, n int, b []byte, want api.Errno) {
	t.Helper()
	was := slices.Clone(b)
	if err := d.Write(n, b); err != want {
		t.Errorf("P1302: Write(%d, %d bytes): %v, not %v", n, len(b), err, want)
	}
	if !bytes.Equal(b, was) {
		t.Errorf("P2: Write(%d, ..) changed the bytes", n)
	}
}

// has holds what a sector has against what it must; asked again, it is the same.
func has(t *testing.T, d *Disk, n int, want []byte) {
	t.Helper()
	for range 2 {
		if b, err := d.Read(n); err != api.OK || !bytes.Equal(b, want) {
			t.Errorf("P1302: Read(%d): %v, %v, not %v", n, b, err, want)
		}
	}
}

// refuses: no bytes beside an error.
func refuses(t *testing.T, d *Disk, n int, want api.Errno) {
	t.Helper()
	if b, err := d.Read(n); err != want || len(b) != 0 {
		t.Errorf("P1302: Read(%d): %d bytes, %v, not %v", n, len(b), err, want)
	}
}

// stands holds how the power stands, and how many writes were done, against what must be.
func stands(t *testing.T, d *Disk, dead bool, writes int) {
	t.Helper()
	for range 2 {
		if d.Dead() != dead || d.Writes() != writes {
			t.Errorf("P1303: dead: %v, %d writes, not %v, %d", d.Dead(), d.Writes(), dead, writes)
		}
	}
}

// P1301.

func TestNumbers(t *testing.T) {
	if api.Sector != 64 {
		t.Errorf("P1301: a sector of %d", api.Sector)
	}
}

func TestNewEveryCount(t *testing.T) {
	for sectors := 1; sectors <= 1024; sectors++ {
		d := made(t, sectors)
		if d.Sectors() != sectors {
			t.Errorf("P1301: %d sectors: %d", sectors, d.Sectors())
		}
		stands(t, d, false, 0)
		has(t, d, 0, noughts())
		has(t, d, sectors-1, noughts())
		refuses(t, d, sectors, api.ErrArg)
	}
}

func TestNewNoughts(t *testing.T) {
	for _, sectors := range []int{1, 2, 3, 40, 64, 1023, 1024} {
		d := made(t, sectors)
		for n := range sectors {
			has(t, d, n, noughts())
		}
	}
}

func TestNewRefuses(t *testing.T) {
	for _, sectors := range append([]int{0}, far...) {
		for range 2 {
			if d, err := New(sectors); d != nil || err != api.ErrArg {
				t.Errorf("P1301: %d sectors: %v", sectors, err)
			}
		}
	}
}

// TestNewApart: nobody else has a disk (P7).
func TestNewApart(t *testing.T) {
	a, b := made(t, 3), made(t, 3)
	write(t, a, 1, page(1), api.OK)
	a.Cut(0)
	write(t, b, 2, page(2), api.OK)
	write(t, b, 2, page(3), api.OK)
	write(t, a, 1, page(4), api.ErrDead)
	stands(t, a, true, 1)
	stands(t, b, false, 2)
	a.Start()
	has(t, a, 1, page(1))
	has(t, a, 2, noughts())
	has(t, b, 1, noughts())
	has(t, b, 2, page(3))
}

// TestSectorsStay: how many there are, whatever is done.
func TestSectorsStay(t *testing.T) {
	for _, sectors := range []int{1, 5, 1024} {
		d := made(t, sectors)
		for step, do := range []func(){
			func() { d.Write(0, page(1)) }, func() { d.Write(sectors-1, page(1)) }, func() { d.Write(sectors, page(1)) }, func() { d.Read(sectors) },
			func() { d.Cut(0) }, func() { d.Write(0, page(2)) }, func() { d.Cut(7) }, func() { d.Read(0) }, func() { d.Start() }, func() { d.Cut(-1) },
		} {
			do()
			if d.Sectors() != sectors {
				t.Errorf("P1301: %d sectors: %d behind step %d", sectors, d.Sectors(), step)
			}
		}
	}
}

// P1302.

func TestReadBounds(t *testing.T) {
	for _, sectors := range []int{1, 2, 9, 1023, 1024} {
		d := made(t, sectors)
		write(t, d, 0, page(1), api.OK)
		write(t, d, sectors-1, page(2), api.OK)
		for _, n := range append([]int{-1, sectors, sectors + 1, 2 * sectors}, far...) {
			refuses(t, d, n, api.ErrArg)
			refuses(t, d, n, api.ErrArg)
		}
		has(t, d, sectors-1, page(2))
		if sectors > 1 {
			has(t, d, 0, page(1))
		}
		stands(t, d, false, 2)
	}
}

func TestReadDead(t *testing.T) {
	d := made(t, 4)
	write(t, d, 2, page(2), api.OK)
	d.Cut(0)
	has(t, d, 2, page(2))
	has(t, d, 3, noughts())
	write(t, d, 3, page(3), api.ErrDead)
	for _, n := range append([]int{0, 2, 3, 4, 5}, far...) {
		refuses(t, d, n, api.ErrDead)
	}
	stands(t, d, true, 1)
	d.Start()
	has(t, d, 2, page(2))
	has(t, d, 3, noughts())
	refuses(t, d, 4, api.ErrArg)
}

// TestReadApart: what Read gave and the disk have nothing of each other, and so have two things that it gave.
func TestReadApart(t *testing.T) {
	d := made(t, 3)
	write(t, d, 1, page(7), api.OK)
	for n, was := range [][]byte{noughts(), page(7), noughts()} {
		first, _ := d.Read(n)
		second, _ := d.Read(n)
		scrawl(second)
		if !bytes.Equal(first, was) {
			t.Errorf("P2: sector %d: what was read changed with what was read of it later", n)
		}
		has(t, d, n, was)
		write(t, d, n, page(n+20), api.OK)
		if !bytes.Equal(first, was) {
			t.Errorf("P2: sector %d: what was read changed with a write", n)
		}
		scrawl(first)
		has(t, d, n, page(n+20))
	}
	first, _ := d.Read(0)
	d.Cut(0)
	write(t, d, 0, page(30), api.ErrDead)
	d.Start()
	if !bytes.Equal(first, page(20)) {
		t.Error("P2: what was read changed when the power went")
	}
	scrawl(first)
	for n := range 3 {
		has(t, d, n, page(n+20))
	}
}

func TestWriteBounds(t *testing.T) {
	for _, sectors := range []int{1, 2, 9, 1023, 1024} {
		d := made(t, sectors)
		for _, n := range append([]int{-1, sectors, sectors + 1, 2 * sectors}, far...) {
			write(t, d, n, page(9), api.ErrArg)
			refuses(t, d, n, api.ErrArg)
		}
		stands(t, d, false, 0)
		for n := range sectors {
			has(t, d, n, noughts())
		}
		write(t, d, sectors-1, page(2), api.OK)
		has(t, d, sectors-1, page(2))
		write(t, d, 0, page(1), api.OK)
		has(t, d, 0, page(1))
		stands(t, d, false, 2)
	}
}

// TestWriteSizes: 64 bytes, and no other number of them; the sector stays as it was.
func TestWriteSizes(t *testing.T) {
	for _, n := range []int{0, 1, 4, 5, -1} {
		d := made(t, 5)
		write(t, d, 1, page(3), api.OK)
		for _, size := range []int{0, 1, 2, 32, 62, 63, 65, 66, 127, 128, 1 << 16} {
			write(t, d, n, slices.Repeat([]byte{0xC3}, size), api.ErrArg)
		}
		write(t, d, n, nil, api.ErrArg)
		write(t, d, n, page(1)[:63], api.ErrArg)
		write(t, d, n, page(1)[64:], api.ErrArg)
		stands(t, d, false, 1)
		for k, want := range [][]byte{noughts(), page(3), noughts(), noughts(), noughts()} {
			has(t, d, k, want)
		}
	}
}

// TestWriteOver: the newest bytes are the sector's, all of them, noughts too.
func TestWriteOver(t *testing.T) {
	d := made(t, 2)
	for i, b := range [][]byte{page(1), page(2), page(2), noughts(), slices.Repeat([]byte{0xFF}, 64), noughts(), page(1)} {
		write(t, d, 1, b, api.OK)
		has(t, d, 1, b)
		has(t, d, 0, noughts())
		stands(t, d, false, i+1)
	}
}

// TestWriteEveryByte: each of the 64 has its own place.
func TestWriteEveryByte(t *testing.T) {
	d := made(t, 2)
	for i := range 64 {
		for _, c := range []byte{1, 0x80, 0xFF} {
			b := noughts()
			b[i] = c
			write(t, d, 0, b, api.OK)
			has(t, d, 0, b)
		}
	}
	has(t, d, 1, noughts())
}

// TestWriteApart: the bytes, and what is around them, stay; and the sector stays, whatever is done to them.
func TestWriteApart(t *testing.T) {
	for _, n := range []int{0, 63, 64, 65} {
		b, all := roomy(n)
		want := slices.Clone(b)
		d := made(t, 3)
		err := d.Write(1, b)
		if again := d.Write(1, b); again != err {
			t.Errorf("P3: %d bytes: %v, then %v", n, err, again)
		}
		if !bytes.Equal(all, slices.Repeat([]byte{0x5B}, n+200)) {
			t.Errorf("P2: %d bytes: these, or what is around them, changed", n)
		}
		scrawl(all)
		if err == api.OK {
			has(t, d, 1, want)
		} else {
			has(t, d, 1, noughts())
		}
		has(t, d, 0, noughts())
		has(t, d, 2, noughts())
	}
}

// TestWriteTheSame: one row of bytes in several sectors, then changed for others.
func TestWriteTheSame(t *testing.T) {
	d := made(t, 8)
	b := page(0)
	for n := range 8 {
		copy(b, page(n))
		write(t, d, n, b, api.OK)
	}
	for n := range 8 {
		has(t, d, n, page(n))
	}
	read, _ := d.Read(3)
	write(t, d, 4, read, api.OK)
	scrawl(read)
	has(t, d, 3, page(3))
	has(t, d, 4, page(3))
}

// wrong are writes that may not be, on a disk of 4 sectors.
var wrong = []struct{ n, size int }{
	{-1, 64}, {4, 64}, {math.MaxInt, 64}, {math.MinInt, 64},
	{0, 63}, {3, 63}, {0, 65}, {3, 65}, {0, 0}, {3, 0},
	{-1, 0}, {-1, 63}, {4, 65}, {4, 0},
}

func ofSize(n int) []byte { return slices.Repeat([]byte{0x99}, n) }

// TestErrors: ErrDead is ahead of ErrArg where the power is gone; where it is to go at the next write, what may not be is no write.
func TestErrors(t *testing.T) {
	d := made(t, 4)
	write(t, d, 2, page(5), api.OK)
	d.Cut(0)
	for _, x := range wrong {
		write(t, d, x.n, ofSize(x.size), api.ErrArg)
		stands(t, d, false, 1)
	}
	write(t, d, 2, page(6), api.ErrDead)
	for _, x := range wrong {
		write(t, d, x.n, ofSize(x.size), api.ErrDead)
		refuses(t, d, x.n, api.ErrDead)
		stands(t, d, true, 1)
	}
	write(t, d, 2, page(6), api.ErrDead)
	write(t, d, 0, page(6), api.ErrDead)
	d.Start()
	for _, x := range wrong {
		write(t, d, x.n, ofSize(x.size), api.ErrArg)
		stands(t, d, false, 1)
	}
	for n, want := range [][]byte{noughts(), noughts(), page(5), noughts()} {
		has(t, d, n, want)
	}
}

// TestWrites: those that were done count, whatever they wrote; none other does.
func TestWrites(t *testing.T) {
	d := made(t, 4)
	for i := range 300 {
		write(t, d, i%4, page(i%7), api.OK)
		stands(t, d, false, i+1)
		x := wrong[i%len(wrong)]
		write(t, d, x.n, ofSize(x.size), api.ErrArg)
		has(t, d, i%4, page(i%7))
		refuses(t, d, 4, api.ErrArg)
		d.Cut(5)
		d.Cut(-1)
		stands(t, d, false, i+1)
	}
	d.Cut(0)
	for range 9 {
		write(t, d, 1, page(8), api.ErrDead)
		stands(t, d, true, 300)
	}
	d.Start()
	stands(t, d, false, 300)
	write(t, d, 1, page(8), api.OK)
	stands(t, d, false, 301)
}

// P1303.

// TestCut: n more writes are done, and the one behind them is not.
func TestCut(t *testing.T) {
	for _, n := range []int{0, 1, 2, 3, 10, 64, 1000} {
		d := made(t, 4)
		d.Cut(n)
		stands(t, d, false, 0)
		for i := range n {
			write(t, d, i%4, page(i), api.OK)
			stands(t, d, false, i+1)
		}
		for range 3 {
			write(t, d, 0, page(2000), api.ErrDead)
			write(t, d, 3, page(2000), api.ErrDead)
			refuses(t, d, 0, api.ErrDead)
			stands(t, d, true, n)
		}
		d.Start()
		for s := range 4 {
			want := noughts()
			for i := s; i < n; i += 4 {
				want = page(i)
			}
			has(t, d, s, want)
		}
	}
}

// TestCutNever: below 0 it does not go, and so it is where nobody said anything.
func TestCutNever(t *testing.T) {
	for _, n := range []int{-1, -2, -7, -1024, -1 << 32, math.MinInt + 1, math.MinInt} {
		d, quiet := made(t, 2), made(t, 2)
		d.Cut(n)
		for i := range 1500 {
			write(t, d, i%2, page(i), api.OK)
			write(t, quiet, i%2, page(i), api.OK)
		}
		stands(t, d, false, 1500)
		stands(t, quiet, false, 1500)
	}
}

// TestCutFar: so late that it does not come.
func TestCutFar(t *testing.T) {
	for _, n := range []int{1500, 1 << 31, 1 << 32, math.MaxInt - 1, math.MaxInt} {
		d := made(t, 2)
		write(t, d, 0, page(1), api.OK)
		d.Cut(n)
		for i := range 1500 {
			write(t, d, i%2, page(i), api.OK)
		}
		stands(t, d, false, 1501)
	}
}

// TestCutAnew: what was said last holds, counted from then on; what was done before is not counted.
func TestCutAnew(t *testing.T) {
	numbers := []int{-9, -1, 0, 1, 2, 5}
	for _, first := range numbers {
		for _, second := range numbers {
			for between := range 6 {
				if first >= 0 && between > first {
					continue
				}
				d := made(t, 2)
				write(t, d, 0, page(50), api.OK)
				d.Cut(first)
				for i := range between {
					write(t, d, 1, page(i), api.OK)
				}
				d.Cut(second)
				stands(t, d, false, 1+between)
				more := second
				if second < 0 {
					more = 20
				}
				for i := range more {
					write(t, d, 0, page(100+i), api.OK)
				}
				stands(t, d, false, 1+between+more)
				if second >= 0 {
					write(t, d, 0, page(200), api.ErrDead)
					stands(t, d, true, 1+between+more)
				}
			}
		}
	}
}

// TestCutCountsWrites: what may not be, and what is no write, counts for nothing.
func TestCutCountsWrites(t *testing.T) {
	for n := range 4 {
		d := made(t, 4)
		d.Cut(n)
		idle := func(done int) {
			for _, x := range wrong {
				write(t, d, x.n, ofSize(x.size), api.ErrArg)
				refuses(t, d, -1, api.ErrArg)
				d.Read(2)
				d.Sectors()
				stands(t, d, false, done)
			}
		}
		for i := range n {
			idle(i)
			write(t, d, i, page(i), api.OK)
		}
		idle(n)
		write(t, d, 3, page(9), api.ErrDead)
		stands(t, d, true, n)
	}
}

// TestCutSays: Cut alone lets nothing go, not even at 0; the write at which the power goes leaves all as it was.
func TestCutSays(t *testing.T) {
	d := made(t, 2)
	write(t, d, 1, page(1), api.OK)
	d.Cut(0)
	stands(t, d, false, 1)
	has(t, d, 1, page(1))
	write(t, d, 1, page(2), api.ErrDead)
	stands(t, d, true, 1)
	d.Start()
	has(t, d, 0, noughts())
	has(t, d, 1, page(1))
}

// TestCutWhileDead: it brings nothing back, and behind Start it holds no more.
func TestCutWhileDead(t *testing.T) {
	for _, n := range []int{math.MinInt, -1, 0, 1, 5, math.MaxInt} {
		d := made(t, 2)
		write(t, d, 0, page(1), api.OK)
		d.Cut(0)
		write(t, d, 0, page(2), api.ErrDead)
		d.Cut(n)
		for range 7 {
			stands(t, d, true, 1)
			write(t, d, 0, page(3), api.ErrDead)
			write(t, d, 2, page(3), api.ErrDead)
			refuses(t, d, 0, api.ErrDead)
		}
		d.Start()
		stands(t, d, false, 1)
		has(t, d, 0, page(1))
		for i := range 20 {
			write(t, d, 1, page(i), api.OK)
		}
		stands(t, d, false, 21)
	}
}

// TestStart: the power is there, and will not go, whatever was said ahead of it; twice is once.
func TestStart(t *testing.T) {
	for _, times := range []int{1, 2, 5} {
		for _, cut := range []int{-1, 0, 1, 3} {
			d := made(t, 2)
			d.Cut(cut)
			want, done := api.OK, 1
			if cut == 0 {
				want, done = api.ErrDead, 0
			}
			write(t, d, 0, page(1), want)
			for range times {
				d.Start()
				stands(t, d, false, done)
			}
			for i := range 20 {
				write(t, d, 1, page(i), api.OK)
			}
			stands(t, d, false, done+20)
		}
	}
	d := made(t, 1)
	d.Start()
	stands(t, d, false, 0)
	has(t, d, 0, noughts())
	write(t, d, 0, page(1), api.OK)
}

// TestCutBehindStart: what is said behind it holds.
func TestCutBehindStart(t *testing.T) {
	d := made(t, 1)
	for n := range 5 {
		d.Cut(9)
		d.Start()
		d.Cut(n)
		was := d.Writes()
		for i := range n {
			write(t, d, 0, page(i), api.OK)
		}
		write(t, d, 0, page(70), api.ErrDead)
		stands(t, d, true, was+n)
		d.Start()
		stands(t, d, false, was+n)
	}
}

// TestExample is the chapter's.
func TestExample(t *testing.T) {
	d := made(t, 2)
	d.Cut(1)
	write(t, d, 0, page(1), api.OK)
	write(t, d, 1, page(2), api.ErrDead)
	stands(t, d, true, 1)
}

// TestUnmade: a disk that New did not make has no sectors (P1).
func TestUnmade(t *testing.T) {
	var d Disk
	for _, n := range append([]int{0, 1}, far...) {
		refuses(t, &d, n, api.ErrArg)
		write(t, &d, n, page(1), api.ErrArg)
	}
	d.Cut(0)
	d.Start()
	write(t, &d, 0, page(1), api.ErrArg)
	stands(t, &d, false, 0)
}
