package chunk

import (
	"bytes"
	"math/bits"
	"math/rand/v2"
	"slices"
	"testing"

	"adit/api"
	"adit/crawl"
	"adit/snap"
)

// What the words say, gone through in the plainest way.

// sending is P1202.
type sending struct {
	heard []bool
	last  int // -1: none was told
}

func (m *sending) next(n int) []int {
	var told []int
	for piece := m.last + 1; piece < m.last+1+len(m.heard); piece++ {
		if p := piece % len(m.heard); !m.heard[p] && len(told) < n {
			told = append(told, p)
		}
	}
	if len(told) > 0 {
		m.last = told[len(told)-1]
	}
	return told
}

func (m *sending) ack(bits uint32) {
	for i := range m.heard {
		if bits&(1<<i) != 0 {
			m.heard[i] = true
		}
	}
}

func (m *sending) done() bool { return !slices.Contains(m.heard, false) }

// taking is P1203.
type taking struct {
	total  int
	pieces map[int][]byte
}

func (m *taking) put(i, total int, b []byte) api.Errno {
	if total < 1 || total > 16 || i < 0 || i > total-1 {
		return api.ErrArg
	}
	if len(m.pieces) > 0 && m.total != total || len(b) > 64 || len(b) < 64 && i != total-1 {
		return api.ErrBad
	}
	m.total = total
	if _, is := m.pieces[i]; !is {
		m.pieces[i] = slices.Clone(b)
	}
	return api.OK
}

func (m *taking) bits() uint32 {
	sum := uint32(0)
	for i := range m.pieces {
		sum += 1 << i
	}
	return sum
}

func (m *taking) whole() ([]byte, bool) {
	if len(m.pieces) == 0 || len(m.pieces) < m.total {
		return nil, false
	}
	var out []byte
	for i := range m.total {
		out = append(out, m.pieces[i]...)
	}
	return out, true
}

func chance(seed uint64) *rand.Rand { return rand.New(rand.NewPCG(seed, 12)) }

func bytesOf(r *rand.Rand, n int) []byte {
	b := make([]byte, n)
	for i := range b {
		b[i] = byte(r.Uint32())
	}
	return b
}

// TestSenderWords: calls by chance, on two senders alike.
func TestSenderWords(t *testing.T) {
	for seed := range uint64(4000) {
		r := chance(seed)
		n := 1 + r.IntN(16)
		s, twin := sender(t, n), sender(t, n)
		m := &sending{make([]bool, n), -1}
		for range 40 {
			if r.IntN(3) == 0 {
				acked := r.Uint32() & r.Uint32() & r.Uint32()
				s.Ack(acked)
				twin.Ack(acked)
				m.ack(acked)
			}
			count := r.IntN(20) - 2
			want := m.next(count)
			next(t, s, count, want...)
			next(t, twin, count, want...)
			done(t, s, m.done())
		}
		if t.Failed() {
			t.Fatalf("seed %d", seed)
		}
	}
}

// TestTakerWords: pieces by chance, some of which may not be.
func TestTakerWords(t *testing.T) {
	for seed := range uint64(4000) {
		r := chance(seed)
		usual := 1 + r.IntN(16)
		k, m := NewTaker(), &taking{pieces: map[int][]byte{}}
		for range 60 {
			total, size := usual, 64
			if r.IntN(6) == 0 {
				total = r.IntN(20) - 1
			}
			i := r.IntN(max(1, total)+2) - 1
			if i == total-1 || r.IntN(8) == 0 {
				size = r.IntN(67)
			}
			b := bytesOf(r, size)
			put(t, k, i, total, b, m.put(i, total, b))
			got, is := k.Whole()
			want, must := m.whole()
			if k.Bits() != m.bits() || is != must || !bytes.Equal(got, want) {
				t.Errorf("P1203: %b, %v, not %b, %v", k.Bits(), is, m.bits(), must)
			}
		}
		if t.Failed() {
			t.Fatalf("seed %d", seed)
		}
	}
}

// P1204.

// TestWholeAsItWas: bytes of every length, their pieces in any order, some twice, some of them late.
func TestWholeAsItWas(t *testing.T) {
	for n := range 1025 {
		r := chance(uint64(n))
		b := bytesOf(r, n)
		pieces, err := Split(b)
		if err != api.OK {
			t.Fatalf("P1201: %d bytes: %v", n, err)
		}
		k := NewTaker()
		order := r.Perm(len(pieces))
		last := order[len(order)-1]
		early := slices.Concat(order[:len(order)-1], order[:(len(order)-1)/2])
		r.Shuffle(len(early), func(i, j int) { early[i], early[j] = early[j], early[i] })
		for _, i := range early {
			put(t, k, i, len(pieces), pieces[i], api.OK)
			if _, is := k.Whole(); is {
				t.Errorf("P1204: %d bytes: whole without piece %d", n, last)
			}
		}
		put(t, k, last, len(pieces), pieces[last], api.OK)
		for _, i := range order {
			put(t, k, i, len(pieces), pieces[i], api.OK)
			if got, is := k.Whole(); !is || !bytes.Equal(got, b) {
				t.Errorf("P1204: %d bytes: %v, %d bytes", n, is, len(got))
			}
		}
	}
}

// TestLost: as long as one lacks, whichever it is, it is not whole.
func TestLost(t *testing.T) {
	for _, n := range []int{0, 1, 64, 65, 128, 500, 960, 1023, 1024} {
		b := some(n)
		pieces, _ := Split(b)
		for lost := range pieces {
			k := NewTaker()
			for i, p := range pieces {
				if i != lost {
					put(t, k, i, len(pieces), p, api.OK)
				}
			}
			if got, is := k.Whole(); is || len(got) != 0 || k.Bits() != 1<<len(pieces)-1-1<<lost {
				t.Errorf("P1204: %d bytes: without piece %d: %v, %b", n, lost, is, k.Bits())
			}
			put(t, k, lost, len(pieces), pieces[lost], api.OK)
			if got, is := k.Whole(); !is || !bytes.Equal(got, b) {
				t.Errorf("P1204: %d bytes: piece %d came late: %v", n, lost, is)
			}
		}
	}
}

// line is a way on which pieces are lost, doubled and mixed up, some of them rounds late.
type line struct {
	r    *rand.Rand
	late []int
}

// carry tells which pieces come of those that were sent, and whether all these did.
func (l *line) carry(sent []int) (come []int, all bool) {
	all = true
	for _, piece := range sent {
		switch l.r.IntN(6) {
		case 0:
			all = false
		case 1:
			all = false
			l.late = append(l.late, piece)
		case 2:
			come = append(come, piece, piece)
			l.late = append(l.late, piece)
		default:
			come = append(come, piece)
		}
	}
	for range l.r.IntN(len(l.late) + 1) {
		come = append(come, l.late[0])
		l.late = l.late[1:]
	}
	l.r.Shuffle(len(come), func(i, j int) { come[i], come[j] = come[j], come[i] })
	return come, all
}

// TestRounds: each round in which all its pieces come brings one that lacks, till none does.
func TestRounds(t *testing.T) {
	for seed := range uint64(3000) {
		r := chance(seed)
		b := bytesOf(r, r.IntN(1025))
		pieces, _ := Split(b)
		s, k := sender(t, len(pieces)), NewTaker()
		way := &line{r: r}
		window := 1 + r.IntN(6)
		for round := 0; !s.Done(); round++ {
			if round > 1000 {
				t.Fatalf("P1204: seed %d: it does not end", seed)
			}
			lacked := bits.OnesCount32(k.Bits())
			come, all := way.carry(s.Next(window))
			for _, i := range come {
				put(t, k, i, len(pieces), pieces[i], api.OK)
			}
			if all && bits.OnesCount32(k.Bits()) == lacked {
				t.Errorf("P1204: seed %d: a round brought none", seed)
			}
			s.Ack(k.Bits())
			if _, is := k.Whole(); is != s.Done() {
				t.Errorf("P1204: seed %d: whole: %v, heard of: %v", seed, is, s.Done())
			}
		}
		if got, is := k.Whole(); !is || !bytes.Equal(got, b) {
			t.Errorf("P1204: seed %d: %v, %d bytes of %d", seed, is, len(got), len(b))
		}
	}
}

// TestQuietRounds: where nothing is lost, so many rounds as the window goes into the pieces.
func TestQuietRounds(t *testing.T) {
	for n := range 1025 {
		b := some(n)
		pieces, _ := Split(b)
		for _, window := range []int{1, 3, 4, 5, 16, 99} {
			s, k := sender(t, len(pieces)), NewTaker()
			rounds := 0
			for ; !s.Done() && rounds < 20; rounds++ {
				for _, i := range s.Next(window) {
					put(t, k, i, len(pieces), pieces[i], api.OK)
				}
				s.Ack(k.Bits())
			}
			if got, is := k.Whole(); !is || !bytes.Equal(got, b) || rounds != (len(pieces)+window-1)/window {
				t.Errorf("P1204: %d bytes, %d a round: %v in %d rounds", n, window, is, rounds)
			}
		}
	}
}

// TestNothingHeard: where no answer comes back, going round brings each piece all the same (W8).
func TestNothingHeard(t *testing.T) {
	for n := 1; n <= 16; n++ {
		for window := 1; window <= 17; window++ {
			s := sender(t, n)
			told := make([]int, n)
			for range n {
				for _, piece := range s.Next(window) {
					told[piece]++
				}
			}
			if each := min(n, window); slices.Min(told) != each || slices.Max(told) != each {
				t.Errorf("P1202: %d pieces, %d a round: %v", n, window, told)
			}
		}
	}
}

// TestWorld: a snapshot goes over in pieces (W8).
func TestWorld(t *testing.T) {
	w := crawl.Step(crawl.New(7), api.Acts{{Spawn: true}})
	b, _ := snap.Encode(w)
	pieces, err := Split(b)
	if err != api.OK || len(pieces) != 15 {
		t.Fatalf("P1201: %d pieces, %v", len(pieces), err)
	}
	k := NewTaker()
	for i := len(pieces) - 1; i >= 0; i-- {
		put(t, k, i, len(pieces), pieces[i], api.OK)
	}
	whole, _ := k.Whole()
	if again, err := snap.Decode(whole); err != api.OK || !snap.Same(again, w) {
		t.Errorf("P1204: another world, %v", err)
	}
}
