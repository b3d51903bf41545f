package rings

import (
	"math"
	"math/rand/v2"
	"slices"
	"testing"

	"adit/api"
)

// What P1701 to P1703 say, gone through in the plainest way: frame by frame.

// plain is a ring by the words.
type plain struct {
	base, known int
	inputs      map[int]int
	forgotten   map[int]bool
}

func newPlain(base int) *plain {
	if base < 0 {
		base = 0
	}
	return &plain{base: base, known: base, inputs: map[int]int{}, forgotten: map[int]bool{}}
}

func (p *plain) put(first int, l []int) (int, api.Errno) {
	if first > p.known+1 {
		return 0, api.ErrGap
	}
	if first < 1 {
		return 0, api.ErrArg
	}
	n := 0
	for i, input := range l {
		if first+i <= p.known {
			continue
		}
		switch input {
		case 0, 1, 2, 3, 4, 5, 6, 7, 8, 9, 10:
			p.inputs[first+i] = input
		default:
			p.inputs[first+i] = 0
		}
		p.known = first + i
		n++
	}
	return n, api.OK
}

func (p *plain) get(frame int) (int, bool) {
	if frame > p.base && frame <= p.known && !p.forgotten[frame] {
		return p.inputs[frame], true
	}
	if frame <= p.known {
		return 0, false
	}
	input, is := p.inputs[p.known]
	if is && !p.forgotten[p.known] && (input == 1 || input == 2 || input == 3 || input == 4) {
		return input, false
	}
	return 0, false
}

func (p *plain) since(frame int) []int {
	var out []int
	for f := p.base + 1; f <= p.known; f++ {
		if f > frame && !p.forgotten[f] {
			out = append(out, p.inputs[f])
		}
	}
	return out
}

func (p *plain) trim(frame int) {
	for f := p.base + 1; f < p.known; f++ {
		if f <= frame {
			p.forgotten[f] = true
		}
	}
}

// step is one call: a Put, or a Trim where trims says so.
type step struct {
	trims bool
	frame int
	l     []int
}

// both does a step to a ring and by the words; what a Put answers must be the same.
func both(t *testing.T, r *Ring, p *plain, s step) {
	t.Helper()
	if s.trims {
		r.Trim(s.frame)
		p.trim(s.frame)
		return
	}
	l := slices.Clone(s.l)
	n, e := r.Put(s.frame, l...)
	want, err := p.put(s.frame, s.l)
	if n != want || e != err {
		t.Fatalf("P1701: Put(%d, %v): %d, %v, not %d, %v", s.frame, s.l, n, e, want, err)
	}
	if !slices.Equal(l, s.l) {
		t.Fatalf("P2: Put(%d, %v): it is %v", s.frame, s.l, l)
	}
	scrawl(l)
}

// same holds all that a ring tells of frames from one to another against the words.
func same(t *testing.T, r *Ring, p *plain, from, to int, how any) {
	t.Helper()
	if r.Known() != p.known {
		t.Fatalf("P1701: %v: Known: %d, not %d", how, r.Known(), p.known)
	}
	for frame := from; frame <= to; frame++ {
		got, is := r.Get(frame)
		if want, known := p.get(frame); got != want || is != known {
			t.Fatalf("P1702: %v: Get(%d): %d, %v, not %d, %v", how, frame, got, is, want, known)
		}
		l := r.Since(frame)
		if want := p.since(frame); !slices.Equal(l, want) {
			t.Fatalf("P1702: %v: Since(%d): %v, not %v", how, frame, l, want)
		}
		scrawl(l)
	}
}

// steps are the calls that three in a row are made of: rows of up to three inputs at each frame near, no two alike, and Trims of them.
func steps() []step {
	var all []step
	input := 0
	for frame := -1; frame <= 5; frame++ {
		all = append(all, step{trims: true, frame: frame})
		for n := range 4 {
			s := step{frame: frame}
			for range n {
				s.l = append(s.l, input%13-1)
				input++
			}
			all = append(all, s)
		}
	}
	return all
}

// TestAllInARow: all rows of three such calls, from bases of -1 to 2.
func TestAllInARow(t *testing.T) {
	all := steps()
	for base := -1; base <= 2; base++ {
		for _, a := range all {
			for _, b := range all {
				for _, c := range all {
					r, p := New(base), newPlain(base)
					both(t, r, p, a)
					both(t, r, p, b)
					both(t, r, p, c)
					same(t, r, p, -1, 9, []step{a, b, c})
				}
			}
		}
	}
}

// chance is a call by chance near the frames that a ring knows.
func chance(r *rand.Rand, p *plain) step {
	s := step{trims: r.IntN(4) == 0, frame: p.known + 1 - r.IntN(6)}
	switch r.IntN(8) {
	case 0:
		s.frame = p.known + 2 + r.IntN(3)
	case 1:
		s.frame = r.IntN(5) - 2
	case 2:
		s.frame = p.base + r.IntN(3) - 1
	}
	for range r.IntN(9) {
		s.l = append(s.l, r.IntN(15)-2)
	}
	if s.trims {
		s.frame -= r.IntN(20)
	}
	return s
}

// TestWords: calls by chance one behind the other.
func TestWords(t *testing.T) {
	for seed := range uint64(300) {
		r := rand.New(rand.NewPCG(seed, 1701))
		base := r.IntN(30) - 3
		ring, p := New(base), newPlain(base)
		for range 60 {
			s := chance(r, p)
			both(t, ring, p, s)
			same(t, ring, p, max(-2, p.known-30), p.known+5, s)
			same(t, ring, p, -2, 2, s)
		}
	}
}

// TestSameAgain: the same calls in the same order tell the same, whatever another ring is told in between.
func TestSameAgain(t *testing.T) {
	for seed := range uint64(60) {
		r := rand.New(rand.NewPCG(seed, 3))
		a, b, other := New(3), New(3), New(3)
		p := newPlain(3)
		for range 50 {
			s := chance(r, p)
			both(t, a, p, s)
			other.Put(other.Known()+1, s.l...)
			other.Trim(s.frame)
			if s.trims {
				b.Trim(s.frame)
			} else {
				b.Put(s.frame, s.l...)
			}
			if !slices.Equal(state(a), state(b)) {
				t.Fatalf("P3: %+v: %v and %v", s, state(a), state(b))
			}
		}
	}
}

// TestAskedChangesNothing: what is asked in between changes nothing that is told later.
func TestAskedChangesNothing(t *testing.T) {
	for seed := range uint64(60) {
		r := rand.New(rand.NewPCG(seed, 5))
		asked, quiet, p := New(2), New(2), newPlain(2)
		for range 50 {
			s := chance(r, p)
			both(t, asked, p, s)
			for range r.IntN(4) {
				asked.Get(r.IntN(60) - 5)
				scrawl(asked.Since(r.IntN(60) - 5))
			}
			if s.trims {
				quiet.Trim(s.frame)
			} else {
				quiet.Put(s.frame, s.l...)
			}
		}
		if !slices.Equal(state(asked), state(quiet)) {
			t.Fatalf("P1702: %v and %v", state(asked), state(quiet))
		}
	}
}

// TestPiecesByChance: a row in pieces that leave no gap, what is known already with other numbers: known is what came first.
func TestPiecesByChance(t *testing.T) {
	for seed := range uint64(300) {
		r := rand.New(rand.NewPCG(seed, 1703))
		base := r.IntN(9)
		row := make([]int, 1+r.IntN(60))
		for i := range row {
			row[i] = r.IntN(11)
		}
		ring, known := New(base), 0
		for known < len(row) {
			from := known - r.IntN(min(known+base, 7)+1)
			to := max(known, from) + r.IntN(min(len(row)-known, 8)+1)
			var l []int
			for i := from; i < to; i++ {
				if i < known {
					l = append(l, r.IntN(20)-4)
				} else {
					l = append(l, row[i])
				}
			}
			if base+from+1 < 1 {
				continue
			}
			n, e := ring.Put(base+from+1, l...)
			if e != api.OK || n != max(to-known, 0) {
				t.Fatalf("P1701: Put(%d, %v): %d, %v", base+from+1, l, n, e)
			}
			known = max(known, to)
		}
		if got := ring.Since(base); !slices.Equal(got, row) || ring.Known() != base+len(row) {
			t.Fatalf("P1703: %v up to %d, not %v", got, ring.Known(), row)
		}
	}
}

// weird are numbers of any size.
func weird() []int {
	l := append(append([]int{1, 2, 3, 5, 7, 79, 80, 81}, far...), early...)
	return append(l, noInputs...)
}

// TestAnyNumbers: nothing panics, and Known() never goes below base, nor back.
func TestAnyNumbers(t *testing.T) {
	for _, base := range weird() {
		for _, a := range weird() {
			for _, b := range weird() {
				r := New(base)
				known := r.Known()
				held := func(call string) {
					now := r.Known()
					if now < known || now < 0 || now < base {
						t.Fatalf("P1701: New(%d), %s(%d), %d: Known %d, it was %d", base, call, a, b, now, known)
					}
					known = now
				}
				r.Put(a, b, a, base)
				held("Put")
				r.Put(r.Known(), a, b, a)
				held("Put at Known()")
				r.Put(r.Known()+1, b)
				held("Put behind Known()")
				r.Trim(a)
				held("Trim")
				r.Get(b)
				r.Since(b)
				r.Put(b, a)
				held("Put again")
				r.Trim(b)
				r.Put(b)
				held("Put none")
				r.Get(a)
				r.Since(a)
				if n, is := r.Get(r.Known()); is != (len(r.Since(0)) > 0) || n < api.Stay || n > api.Buy {
					t.Fatalf("P1702: New(%d), %d, %d: Get(Known()): %d, %v", base, a, b, n, is)
				}
			}
		}
	}
}

// TestAnyNumbersByChance: the same of numbers by chance, and a ring without New.
func TestAnyNumbersByChance(t *testing.T) {
	r := rand.New(rand.NewPCG(17, 17))
	number := func() int {
		n := int(r.Uint64()) >> r.IntN(64)
		if r.IntN(3) == 0 {
			return math.MaxInt - n
		}
		return n
	}
	for range 4000 {
		ring := New(number())
		if r.IntN(9) == 0 {
			ring = &Ring{}
		}
		for range 12 {
			switch r.IntN(5) {
			case 0:
				ring.Put(number(), number(), number(), number())
			case 1:
				ring.Put(ring.Known()-r.IntN(3), number(), number(), number())
			case 2:
				ring.Trim(number())
			case 3:
				ring.Get(number())
			case 4:
				ring.Since(number())
			}
			if n := len(ring.Since(0)); ring.Known() < n {
				t.Fatalf("P1701: Known %d, of %d inputs", ring.Known(), n)
			}
		}
	}
}
