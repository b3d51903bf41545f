package chunk

import (
	"bytes"
	"math"
	"slices"
	"testing"

	"adit/api"
)

// some are n bytes, others other ones: at no place the same.
func some(n int) []byte {
	b := make([]byte, n)
	for i := range b {
		b[i] = byte(i*7 + i>>8)
	}
	return b
}

func others(n int) []byte {
	b := some(n)
	for i := range b {
		b[i] ^= 0xA5
	}
	return b
}

// roomy are n bytes in the midst of more: what is behind them is their spare room. all tells the whole of it.
func roomy(n int) (b, all []byte) {
	all = some(n + 200)
	return all[100 : 100+n], all
}

// scrawl writes over a list, its spare room too.
func scrawl[T any](l []T, with T) {
	l = l[:cap(l)]
	for i := range l {
		l[i] = with
	}
}

// lengths are those of the pieces of n bytes.
func lengths(n int) []int {
	if n <= 64 {
		return []int{n}
	}
	return append([]int{64}, lengths(n-64)...)
}

// P1201.

func TestNumbers(t *testing.T) {
	if api.ChunkSize != 64 || api.MaxChunks != 16 {
		t.Errorf("P1201: %d bytes, %d pieces", api.ChunkSize, api.MaxChunks)
	}
}

func TestSplitPieces(t *testing.T) {
	for _, x := range []struct {
		n    int
		want []int
	}{
		{0, []int{0}}, {1, []int{1}}, {2, []int{2}}, {63, []int{63}}, {64, []int{64}}, {65, []int{64, 1}},
		{127, []int{64, 63}}, {128, []int{64, 64}}, {129, []int{64, 64, 1}},
		{918, append(slices.Repeat([]int{64}, 14), 22)},
		{960, slices.Repeat([]int{64}, 15)}, {961, append(slices.Repeat([]int{64}, 15), 1)},
		{1023, append(slices.Repeat([]int{64}, 15), 63)}, {1024, slices.Repeat([]int{64}, 16)},
	} {
		pieces, err := Split(some(x.n))
		if err != api.OK || len(pieces) != len(x.want) {
			t.Errorf("P1201: %d bytes: %d pieces, %v", x.n, len(pieces), err)
			continue
		}
		for i, p := range pieces {
			if len(p) != x.want[i] || !bytes.Equal(p, some(x.n)[64*i:64*i+x.want[i]]) {
				t.Errorf("P1201: %d bytes: piece %d: %v", x.n, i, p)
			}
		}
	}
}

func TestSplitEveryLength(t *testing.T) {
	for n := range 1025 {
		pieces, err := Split(some(n))
		var got []int
		for _, p := range pieces {
			got = append(got, len(p))
		}
		if err != api.OK || !slices.Equal(got, lengths(n)) || !bytes.Equal(bytes.Join(pieces, nil), some(n)) {
			t.Errorf("P1201: %d bytes: %v, %v", n, got, err)
		}
	}
}

func TestSplitRefuses(t *testing.T) {
	for _, n := range []int{1025, 1026, 1088, 1089, 2048, 1 << 16, 1 << 20} {
		if pieces, err := Split(some(n)); err != api.ErrMany || len(pieces) != 0 {
			t.Errorf("P1201: %d bytes: %d pieces, %v", n, len(pieces), err)
		}
	}
}

// TestSplitNone: no list and an empty one are the same, whatever room there is behind it.
func TestSplitNone(t *testing.T) {
	room, _ := roomy(0)
	for _, b := range [][]byte{nil, {}, make([]byte, 0, 100), room} {
		if pieces, err := Split(b); err != api.OK || len(pieces) != 1 || len(pieces[0]) != 0 {
			t.Errorf("P1201: of no bytes: %v, %v", pieces, err)
		}
	}
}

// TestSplitApart: neither the bytes nor the pieces change with one another.
func TestSplitApart(t *testing.T) {
	for _, n := range []int{0, 1, 63, 64, 65, 128, 200, 1000, 1024, 1025} {
		b, all := roomy(n)
		want := slices.Clone(b)
		first, err := Split(b)
		again, sameErr := Split(b)
		if err != sameErr || !slices.EqualFunc(first, again, bytes.Equal) {
			t.Errorf("P3: %d bytes: other pieces", n)
		}
		if !bytes.Equal(all, some(n+200)) {
			t.Errorf("P2: %d bytes: these, or what is around them, changed", n)
		}
		scrawl(all, 0xEE)
		if err == api.OK && !bytes.Equal(bytes.Join(first, nil), want) {
			t.Errorf("P1201: %d bytes: the pieces changed with these", n)
		}
		for i := range first {
			scrawl(first[i], 0xDD)
			for k := i + 1; k < len(first); k++ {
				if !bytes.Equal(first[k], again[k]) {
					t.Errorf("P2: %d bytes: piece %d changed with piece %d", n, k, i)
				}
			}
		}
		scrawl(first, nil)
		if !bytes.Equal(all, slices.Repeat([]byte{0xEE}, n+200)) {
			t.Errorf("P2: %d bytes: these changed with their pieces", n)
		}
		if err == api.OK && !bytes.Equal(bytes.Join(again, nil), want) {
			t.Errorf("P2: %d bytes: pieces changed with those of an answer ahead", n)
		}
	}
}

// P1202.

func sender(t *testing.T, n int) *Sender {
	t.Helper()
	s, err := NewSender(n)
	if s == nil || err != api.OK {
		t.Fatalf("P1202: NewSender(%d): %v, %v", n, s, err)
	}
	return s
}

// next holds what Next tells against what it must.
func next(t *testing.T, s *Sender, n int, want ...int) {
	t.Helper()
	if got := s.Next(n); !slices.Equal(got, want) {
		t.Errorf("P1202: Next(%d): %v, not %v", n, got, want)
	}
}

func done(t *testing.T, s *Sender, want bool) {
	t.Helper()
	if s.Done() != want || s.Done() != want {
		t.Errorf("P1202: Done: not %v", want)
	}
}

// upTo are the numbers from 0 on, n of them.
func upTo(n int) []int {
	var l []int
	for i := range n {
		l = append(l, i)
	}
	return l
}

func TestNewSender(t *testing.T) {
	for _, n := range []int{math.MinInt, math.MinInt + 1, -1 << 32, -64, -17, -16, -2, -1, 0, 17, 18, 31, 32, 33, 64, 65, 1<<32 + 1, 1 << 62, math.MaxInt} {
		if s, err := NewSender(n); s != nil || err != api.ErrArg {
			t.Errorf("P1202: NewSender(%d): %v, %v", n, s, err)
		}
	}
	for n := 1; n <= 16; n++ {
		s := sender(t, n)
		done(t, s, false)
		next(t, s, 99, upTo(n)...)
		done(t, s, false)
	}
}

func TestNextRound(t *testing.T) {
	s := sender(t, 5)
	next(t, s, 3, 0, 1, 2)
	next(t, s, 3, 3, 4, 0)
	next(t, s, 1, 1)
	next(t, s, 1, 2)
	next(t, s, 4, 3, 4, 0, 1)
	next(t, s, 5, 2, 3, 4, 0, 1)
	next(t, s, 6, 2, 3, 4, 0, 1)
	next(t, s, 2, 2, 3)
	next(t, s, 1, 4)
	next(t, s, 1, 0)
}

// TestNextMany: however many are asked for, each is told once, and the next ones go on behind the last.
func TestNextMany(t *testing.T) {
	for _, n := range []int{16, 17, 31, 32, 33, 1000, 1 << 31, 1 << 62, math.MaxInt} {
		s := sender(t, 16)
		next(t, s, n, upTo(16)...)
		next(t, s, 3, 0, 1, 2)
		next(t, s, n, 3, 4, 5, 6, 7, 8, 9, 10, 11, 12, 13, 14, 15, 0, 1, 2)
		s = sender(t, 1)
		next(t, s, n, 0)
		next(t, s, n, 0)
		next(t, s, 1, 0)
	}
}

// TestNextNone: nothing is told, and what comes behind goes on as if it had not been asked.
func TestNextNone(t *testing.T) {
	for _, n := range []int{0, -1, -2, -5, -16, -1 << 31, math.MinInt + 1, math.MinInt} {
		s := sender(t, 5)
		next(t, s, n)
		next(t, s, 2, 0, 1)
		next(t, s, n)
		next(t, s, n)
		next(t, s, 4, 2, 3, 4, 0)
		s.Ack(0b00010)
		next(t, s, n)
		next(t, s, 1, 2)
	}
}

func TestNextHeard(t *testing.T) {
	s := sender(t, 8)
	s.Ack(0b00100101)
	next(t, s, 2, 1, 3)
	next(t, s, 2, 4, 6)
	next(t, s, 2, 7, 1)
	s.Ack(0b00000010)
	next(t, s, 9, 3, 4, 6, 7)
	next(t, s, 4, 3, 4, 6, 7)
	next(t, s, 3, 3, 4, 6)
	s.Ack(0b10000000)
	next(t, s, 1, 3)
	s.Ack(0b01010000)
	next(t, s, 3, 3)
	next(t, s, 1, 3)
	done(t, s, false)
	s.Ack(0b00001000)
	next(t, s, 3)
	next(t, s, 1)
	done(t, s, true)
}

// TestNextBehindTheLast: it goes on behind the piece that was told last, heard of or not, and not ahead of it.
func TestNextBehindTheLast(t *testing.T) {
	s := sender(t, 6)
	next(t, s, 3, 0, 1, 2)
	s.Ack(0b000100)
	next(t, s, 1, 3)
	s.Ack(0b011000)
	next(t, s, 1, 5)
	next(t, s, 1, 0)
	s.Ack(0b000011)
	next(t, s, 2, 5)
	next(t, s, 2, 5)
	done(t, s, false)
}

// TestNextOneLacks: whichever it is, wherever it stood.
func TestNextOneLacks(t *testing.T) {
	for lacks := range 16 {
		for stood := range 17 {
			s := sender(t, 16)
			s.Next(stood)
			s.Ack(0xFFFF &^ (1 << lacks))
			done(t, s, false)
			for _, n := range []int{1, 0, 2, 16, -1, 17} {
				if n < 1 {
					next(t, s, n)
				} else {
					next(t, s, n, lacks)
				}
			}
			s.Ack(1 << lacks)
			done(t, s, true)
			next(t, s, 16)
		}
	}
}

func TestAck(t *testing.T) {
	s := sender(t, 3)
	done(t, s, false)
	s.Ack(0)
	next(t, s, 3, 0, 1, 2)
	s.Ack(0xFFFFFFF8)
	done(t, s, false)
	next(t, s, 3, 0, 1, 2)
	s.Ack(0b010)
	s.Ack(0b010)
	done(t, s, false)
	next(t, s, 3, 0, 2)
	s.Ack(0)
	next(t, s, 3, 0, 2)
	s.Ack(0b1001)
	done(t, s, false)
	next(t, s, 3, 2)
	s.Ack(0b011)
	done(t, s, false)
	next(t, s, 3, 2)
	s.Ack(0xFFFFFFFF)
	done(t, s, true)
	next(t, s, 3)
	s.Ack(0)
	s.Ack(0b111)
	done(t, s, true)
	next(t, s, 3)
}

// TestAckEach: of n pieces each bit is that piece's, those beyond are nobody's, and all of them are all.
func TestAckEach(t *testing.T) {
	for n := 1; n <= 16; n++ {
		for i := range 32 {
			s := sender(t, n)
			s.Ack(1 << i)
			want := slices.DeleteFunc(upTo(n), func(piece int) bool { return piece == i })
			done(t, s, len(want) == 0)
			next(t, s, 32, want...)
		}
		for _, bits := range []uint32{1<<n - 1, 0xFFFF, 0xFFFFFFFF} {
			s := sender(t, n)
			s.Ack(bits)
			done(t, s, true)
			next(t, s, 32)
		}
		s := sender(t, n)
		s.Ack(^uint32(1<<n - 1))
		done(t, s, false)
		next(t, s, 32, upTo(n)...)
	}
}

// TestDoneTellsOnly: it is asked ahead of, within and behind the pieces, and changes nothing.
func TestDoneTellsOnly(t *testing.T) {
	s := sender(t, 4)
	for i := range 4 {
		done(t, s, false)
		next(t, s, 1, i)
		done(t, s, false)
		s.Ack(1 << i)
	}
	done(t, s, true)
	next(t, s, 1)
	done(t, s, true)
}

// TestSenderApart: two senders have nothing of each other, and an answer is nobody else's.
func TestSenderApart(t *testing.T) {
	a, b := sender(t, 6), sender(t, 6)
	got := a.Next(4)
	scrawl(got, 5)
	a.Ack(0b010011)
	got = a.Next(2)
	scrawl(got, 0)
	next(t, a, 4, 3, 5, 2)
	next(t, b, 4, 0, 1, 2, 3)
	b.Ack(0b111111)
	done(t, a, false)
	done(t, b, true)
}

// P1203.

// holds holds what a taker tells against the pieces that must be there (nil: it is not), twice.
func holds(t *testing.T, k *Taker, pieces ...[]byte) {
	t.Helper()
	bits, lacks := uint32(0), len(pieces) == 0
	for i, p := range pieces {
		if p == nil {
			lacks = true
			continue
		}
		bits |= 1 << i
	}
	for range 2 {
		if got := k.Bits(); got != bits {
			t.Errorf("P1203: Bits: %b, not %b", got, bits)
		}
		b, is := k.Whole()
		switch {
		case is == lacks:
			t.Errorf("P1203: Whole: %v", is)
		case lacks && len(b) != 0:
			t.Errorf("P4: Whole: %d bytes beside a false", len(b))
		case is && !bytes.Equal(b, bytes.Join(pieces, nil)):
			t.Errorf("P1203: Whole: other bytes: %v", b)
		}
		scrawl(b, 0xCC)
	}
}

// put holds what Put answers against what it must, and scrawls over the bytes behind it.
func put(t *testing.T, k *Taker, i, total int, b []byte, want api.Errno) {
	t.Helper()
	in := append(slices.Clone(b), 1, 2, 3)
	room := slices.Clone(in)
	if err := k.Put(i, total, in[:len(b)]); err != want {
		t.Errorf("P1203: Put(%d, %d, %d bytes): %v, not %v", i, total, len(b), err, want)
	}
	if !bytes.Equal(in, room) {
		t.Errorf("P2: Put(%d, %d, %d bytes): these, or those behind them, changed", i, total, len(b))
	}
	scrawl(in, 0xBB)
}

func TestTakerNew(t *testing.T) {
	k := NewTaker()
	if k == nil {
		t.Fatal("P1203: there is no taker")
	}
	holds(t, k)
}

// TestPutNumbers: total and i at both ends of their ranges, and beyond, on a new taker and on one with a piece.
func TestPutNumbers(t *testing.T) {
	far := []int{math.MinInt, math.MinInt + 1, -1 << 32, -17, -16, -2, -1, 17, 18, 31, 32, 33, 63, 64, 1 << 32, 1<<32 + 1, math.MaxInt - 1, math.MaxInt}
	for _, total := range append([]int{0}, far...) {
		for _, i := range append(upTo(17), far...) {
			for _, size := range []int{0, 1, 63, 64, 65} {
				k := NewTaker()
				put(t, k, i, total, some(size), api.ErrArg)
				holds(t, k)
			}
		}
	}
	for total := 1; total <= 16; total++ {
		for _, i := range append([]int{total, total + 1}, far...) {
			k := NewTaker()
			put(t, k, i, total, some(64), api.ErrArg)
			put(t, k, i, total, some(65), api.ErrArg)
			put(t, k, i, total, nil, api.ErrArg)
			holds(t, k)
			put(t, k, total-1, total, some(5), api.OK)
			want := make([][]byte, total)
			want[total-1] = some(5)
			put(t, k, i, total, some(64), api.ErrArg)
			holds(t, k, want...)
		}
		for i := range total {
			k := NewTaker()
			put(t, k, i, total, some(64), api.OK)
			want := make([][]byte, total)
			want[i] = some(64)
			holds(t, k, want...)
		}
	}
}

// TestPutSizes: ChunkSize bytes, but of the last piece, which may have fewer, or none.
func TestPutSizes(t *testing.T) {
	for _, total := range []int{1, 2, 3, 15, 16} {
		for i := range total {
			for _, size := range []int{0, 1, 32, 62, 63, 64, 65, 66, 128, 1024, 1 << 16} {
				k := NewTaker()
				if size > 64 || size < 64 && i < total-1 {
					put(t, k, i, total, some(size), api.ErrBad)
					holds(t, k)
					continue
				}
				put(t, k, i, total, some(size), api.OK)
				want := make([][]byte, total)
				want[i] = some(size)
				holds(t, k, want...)
			}
		}
	}
}

// TestPutTotals: that of the pieces that are there, and no other one; one that was refused leaves none behind.
func TestPutTotals(t *testing.T) {
	for total := 1; total <= 16; total++ {
		for i := range total {
			k := NewTaker()
			put(t, k, i, total, some(64), api.OK)
			want := make([][]byte, total)
			want[i] = some(64)
			for other := 1; other <= 16; other++ {
				if other == total {
					continue
				}
				put(t, k, other-1, other, some(64), api.ErrBad)
				put(t, k, 0, other, some(64), api.ErrBad)
				put(t, k, min(i, other-1), other, some(64), api.ErrBad)
				put(t, k, other, other, some(64), api.ErrArg)
			}
			put(t, k, 0, 0, some(64), api.ErrArg)
			put(t, k, 0, 17, some(64), api.ErrArg)
			holds(t, k, want...)
		}
	}
	k := NewTaker()
	put(t, k, 0, 3, some(65), api.ErrBad)
	put(t, k, 1, 3, some(63), api.ErrBad)
	put(t, k, 3, 3, some(64), api.ErrArg)
	put(t, k, 0, 17, some(64), api.ErrArg)
	put(t, k, 0, 2, some(64), api.OK)
	put(t, k, 2, 3, some(64), api.ErrBad)
	put(t, k, 1, 2, others(10), api.OK)
	holds(t, k, some(64), others(10))
}

// TestPutErrors: where several apply, the number's is ahead of the bytes'.
func TestPutErrors(t *testing.T) {
	k := NewTaker()
	put(t, k, 1, 2, some(7), api.OK)
	for _, x := range []struct {
		i, total, size int
		want           api.Errno
	}{
		{0, 0, 65, api.ErrArg}, {0, -1, 3, api.ErrArg}, {0, 17, 99, api.ErrArg}, {-1, 2, 65, api.ErrArg}, {2, 2, 65, api.ErrArg},
		{3, 3, 64, api.ErrArg}, {-1, 3, 64, api.ErrArg}, {16, 16, 3, api.ErrArg}, {5, 1, 3, api.ErrArg},
		{0, 3, 65, api.ErrBad}, {0, 3, 64, api.ErrBad}, {0, 2, 65, api.ErrBad}, {0, 2, 63, api.ErrBad}, {1, 2, 65, api.ErrBad}, {0, 1, 7, api.ErrBad},
	} {
		put(t, k, x.i, x.total, some(x.size), x.want)
		put(t, k, x.i, x.total, some(x.size), x.want)
		holds(t, k, nil, some(7))
	}
}

// TestPutTwice: a piece that is there stays as it is; what may not be is refused all the same.
func TestPutTwice(t *testing.T) {
	k := NewTaker()
	put(t, k, 0, 3, some(64), api.OK)
	put(t, k, 0, 3, others(64), api.OK)
	put(t, k, 0, 3, others(63), api.ErrBad)
	put(t, k, 0, 3, others(65), api.ErrBad)
	put(t, k, 0, 3, nil, api.ErrBad)
	put(t, k, 0, 2, some(64), api.ErrBad)
	holds(t, k, some(64), nil, nil)
	put(t, k, 2, 3, some(9), api.OK)
	put(t, k, 2, 3, others(9), api.OK)
	put(t, k, 2, 3, others(64), api.OK)
	put(t, k, 2, 3, others(8), api.OK)
	put(t, k, 2, 3, nil, api.OK)
	put(t, k, 2, 3, others(65), api.ErrBad)
	holds(t, k, some(64), nil, some(9))
	put(t, k, 1, 3, others(64), api.OK)
	holds(t, k, some(64), others(64), some(9))
	put(t, k, 1, 3, some(64), api.OK)
	put(t, k, 0, 3, others(64), api.OK)
	put(t, k, 3, 3, some(64), api.ErrArg)
	put(t, k, 0, 1, some(64), api.ErrBad)
	holds(t, k, some(64), others(64), some(9))
}

// TestPutNone: a last piece of no bytes is there like any other, and stays so.
func TestPutNone(t *testing.T) {
	for _, none := range [][]byte{nil, {}, make([]byte, 0, 9)} {
		k := NewTaker()
		if err := k.Put(0, 1, none); err != api.OK {
			t.Errorf("P1203: a piece of none: %v", err)
		}
		holds(t, k, []byte{})
		put(t, k, 0, 1, some(4), api.OK)
		put(t, k, 0, 2, some(64), api.ErrBad)
		holds(t, k, []byte{})
		k = NewTaker()
		if err := k.Put(1, 2, none); err != api.OK {
			t.Errorf("P1203: a last piece of none: %v", err)
		}
		holds(t, k, nil, []byte{})
		put(t, k, 1, 2, some(4), api.OK)
		put(t, k, 0, 2, some(64), api.OK)
		holds(t, k, some(64), []byte{})
	}
}

func TestBits(t *testing.T) {
	for total := 1; total <= 16; total++ {
		up, down := NewTaker(), NewTaker()
		for i := range total {
			put(t, up, i, total, some(64), api.OK)
			put(t, down, total-1-i, total, some(64), api.OK)
			low := uint32(1)<<(i+1) - 1
			if up.Bits() != low || down.Bits() != low<<(total-1-i) {
				t.Errorf("P1203: %d of %d: %b, %b", i+1, total, up.Bits(), down.Bits())
			}
			_, upIs := up.Whole()
			_, downIs := down.Whole()
			if upIs != (i == total-1) || downIs != upIs {
				t.Errorf("P1203: Whole: %d of %d: %v, %v", i+1, total, upIs, downIs)
			}
		}
	}
}

// TestWholeApart: what Whole gave stays as it is, and the taker's pieces stay whatever is done to that.
func TestWholeApart(t *testing.T) {
	for _, total := range []int{1, 2, 16} {
		k := NewTaker()
		var want []byte
		for i := range total {
			p := others(64)
			p[0] = byte(i)
			put(t, k, i, total, p, api.OK)
			want = append(want, p...)
		}
		first, _ := k.Whole()
		put(t, k, 0, total, some(64), api.OK)
		put(t, k, total-1, total, some(3), api.OK)
		second, _ := k.Whole()
		scrawl(second, 0xAA)
		if !bytes.Equal(first, want) {
			t.Errorf("P2: %d pieces: what Whole gave changed", total)
		}
		scrawl(first, 0xAA)
		if third, is := k.Whole(); !is || !bytes.Equal(third, want) {
			t.Errorf("P2: %d pieces: the pieces changed with what Whole gave", total)
		}
	}
}

// TestTakerApart: two takers have nothing of each other.
func TestTakerApart(t *testing.T) {
	a, b := NewTaker(), NewTaker()
	put(t, a, 0, 2, some(64), api.OK)
	holds(t, b)
	put(t, b, 2, 3, others(5), api.OK)
	put(t, a, 1, 2, some(3), api.OK)
	holds(t, a, some(64), some(3))
	holds(t, b, nil, nil, others(5))
}
