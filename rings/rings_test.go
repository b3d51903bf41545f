package rings

import (
	"math"
	"slices"
	"testing"

	"adit/api"
)

// roomy is the same row in the midst of more numbers; all is the whole of it.
func roomy(l []int) (in, all []int) {
	all = slices.Concat(slices.Repeat([]int{77}, 9), l, slices.Repeat([]int{77}, 9))
	return all[9 : 9+len(l)], all
}

// scrawl writes over a row, its spare room too.
func scrawl(l []int) {
	l = l[:cap(l)]
	for i := range l {
		l[i] = 4
	}
}

// made is a ring with a row of inputs behind a base.
func made(base int, l ...int) *Ring {
	r := New(base)
	r.Put(r.Known()+1, l...)
	return r
}

// put holds what Put answers against what it must, and Known() behind it; the row that was handed in stays as it was, and is written over then.
func put(t *testing.T, r *Ring, first int, l []int, n, known int) {
	t.Helper()
	in, all := roomy(l)
	was := slices.Clone(all)
	if got, e := r.Put(first, in...); got != n || e != api.OK {
		t.Errorf("P1701: Put(%d, %v): %d, %v, not %d, ok", first, l, got, e, n)
	}
	if !slices.Equal(all, was) {
		t.Errorf("P2: Put(%d, %v): the row, or what is around it, changed", first, l)
	}
	scrawl(all)
	knows(t, r, known)
}

// refused holds a Put that must fail, and that nothing changed by it.
func refused(t *testing.T, r *Ring, first int, l []int, want api.Errno) {
	t.Helper()
	was := state(r)
	in, all := roomy(l)
	for range 2 {
		n, e := r.Put(first, in...)
		if e != want {
			t.Errorf("P1701: Put(%d, %v): %v, not %v", first, l, e, want)
		}
		if n != 0 {
			t.Errorf("P4: Put(%d, %v): %d beside %v", first, l, n, e)
		}
	}
	if got := state(r); !slices.Equal(got, was) {
		t.Errorf("P5: Put(%d, %v): %v, it was %v", first, l, got, was)
	}
	_, around := roomy(l)
	if !slices.Equal(all, around) {
		t.Errorf("P2: Put(%d, %v): the row, or what is around it, changed", first, l)
	}
}

// state is what a ring tells of the frames around those that it keeps.
func state(r *Ring) []int {
	told := append([]int{r.Known()}, r.Since(-1)...)
	for back := range 24 {
		input, is := r.Get(r.Known() + 4 - back)
		told = append(told, input)
		if is {
			told = append(told, 1000)
		}
	}
	return told
}

// knows holds Known against what it must tell.
func knows(t *testing.T, r *Ring, want int) {
	t.Helper()
	for range 2 {
		if got := r.Known(); got != want {
			t.Errorf("P1701: Known: %d, not %d", got, want)
		}
	}
}

// tells, guesses and lacks hold Get of a frame against what it must tell: its input; a guess; nothing.
func tells(t *testing.T, r *Ring, frame, want int) {
	t.Helper()
	gets(t, r, frame, want, true)
}

func guesses(t *testing.T, r *Ring, frame, want int) {
	t.Helper()
	gets(t, r, frame, want, false)
}

func lacks(t *testing.T, r *Ring, frame int) {
	t.Helper()
	gets(t, r, frame, 0, false)
}

func gets(t *testing.T, r *Ring, frame, want int, is bool) {
	t.Helper()
	for range 2 {
		if got, known := r.Get(frame); got != want || known != is {
			t.Errorf("P1702: Get(%d): %d, %v, not %d, %v", frame, got, known, want, is)
		}
	}
}

// since holds Since against what it must tell; what it told is written over, and it tells the same again.
func since(t *testing.T, r *Ring, frame int, want ...int) {
	t.Helper()
	for range 3 {
		got := r.Since(frame)
		if !slices.Equal(got, want) {
			t.Errorf("P1702: Since(%d): %v, not %v", frame, got, want)
		}
		scrawl(got)
	}
}

// far are frames that are great.
var far = []int{1 << 10, 1<<30 - 1, 1 << 30, 1 << 31, 1<<32 + 1, 1 << 40, 1 << 62, math.MaxInt - 1, math.MaxInt}

// early are frames ahead of the first one.
var early = []int{0, -1, -2, -9, -1024, -1 << 31, -1 << 32, -1 << 62, math.MinInt + 1, math.MinInt}

// noInputs are numbers that are none of 0 to 10.
var noInputs = []int{-1, -2, -10, -256, -1 << 31, math.MinInt, math.MinInt + 1, math.MinInt + 3, 11, 12, 15, 16, 17, 255, 256, 257, 258, 1<<16 + 3, 1<<32 + 2, 1<<62 + 1, math.MaxInt}

func TestNumbers(t *testing.T) {
	if api.Stay != 0 || api.North != 1 || api.East != 2 || api.South != 3 || api.West != 4 || api.Pick != 5 || api.Buy != 10 {
		t.Error("api's numbers are not those that these tests are made for")
	}
}

// P1701.

// TestExample is the chapter's.
func TestExample(t *testing.T) {
	r := New(4)
	put(t, r, 5, []int{1, 2}, 2, 6)
	put(t, r, 6, []int{9, 3}, 1, 7)
	since(t, r, 4, 1, 2, 3)
	guesses(t, r, 8, 3)
}

// TestNew: nothing is known of a new one, whatever its base; below 0 it is 0.
func TestNew(t *testing.T) {
	for _, base := range append([]int{0, 1, 2, 4, 80}, far...) {
		r := New(base)
		knows(t, r, base)
		since(t, r, base)
		since(t, r, -1)
		lacks(t, r, base)
		lacks(t, r, 0)
	}
	for _, base := range early {
		r := New(base)
		knows(t, r, 0)
		lacks(t, r, base)
		since(t, r, base)
		refused(t, r, 0, []int{1}, api.ErrArg)
		refused(t, r, 2, []int{1}, api.ErrGap)
		put(t, r, 1, []int{2}, 1, 1)
		tells(t, r, 1, 2)
		lacks(t, r, 0)
	}
}

// TestPutFirst: at each place where a row may begin, of a ring that knows nothing and of one that knows some.
func TestPutFirst(t *testing.T) {
	for _, base := range []int{0, 1, 2, 5, 100, 1 << 20, 1 << 40} {
		for _, known := range [][]int{nil, {3}, {1, 2}, {5, 6, 7, 8}} {
			r := made(base, known...)
			end := base + len(known)
			knows(t, r, end)
			for _, l := range [][]int{nil, {}, {2}, {2, 3, 4}, make([]int, 40)} {
				refused(t, r, end+2, l, api.ErrGap)
				refused(t, r, end+3, l, api.ErrGap)
				for _, first := range far {
					if first > end+1 {
						refused(t, r, first, l, api.ErrGap)
					}
				}
				for _, first := range early {
					refused(t, r, first, l, api.ErrArg)
				}
			}
			since(t, r, 0, known...)
			put(t, r, end+1, []int{9}, 1, end+1)
			tells(t, r, end+1, 9)
		}
	}
}

// TestPutNone: no inputs are as a row of which all are known, where one may begin.
func TestPutNone(t *testing.T) {
	r := New(3)
	for first := 1; first <= 4; first++ {
		put(t, r, first, nil, 0, 3)
		put(t, r, first, []int{}, 0, 3)
	}
	refused(t, r, 5, nil, api.ErrGap)
	refused(t, r, 0, nil, api.ErrArg)
	put(t, r, 4, []int{7, 7}, 2, 5)
	for first := 1; first <= 6; first++ {
		put(t, r, first, nil, 0, 5)
	}
	refused(t, r, 7, nil, api.ErrGap)
	refused(t, r, 0, []int{}, api.ErrArg)
	since(t, r, 0, 7, 7)
}

// TestPutKnown: rows that are known whole, in part, and not at all.
func TestPutKnown(t *testing.T) {
	r := New(10)
	put(t, r, 11, []int{1, 2, 3}, 3, 13)
	put(t, r, 11, []int{4, 4, 4}, 0, 13)
	put(t, r, 11, []int{4}, 0, 13)
	put(t, r, 12, []int{4, 4}, 0, 13)
	put(t, r, 13, []int{4}, 0, 13)
	since(t, r, 10, 1, 2, 3)
	put(t, r, 13, []int{4, 5}, 1, 14)
	put(t, r, 14, []int{4}, 0, 14)
	put(t, r, 11, []int{4, 4, 4, 4, 6, 7}, 2, 16)
	since(t, r, 10, 1, 2, 3, 5, 6, 7)
	put(t, r, 17, []int{8}, 1, 17)
	since(t, r, 10, 1, 2, 3, 5, 6, 7, 8)
}

// TestPutAheadOfBase: what is of base and ahead of it is passed over, and told of no more than before.
func TestPutAheadOfBase(t *testing.T) {
	r := New(4)
	put(t, r, 1, []int{5, 5, 5}, 0, 4)
	put(t, r, 1, []int{5, 5, 5, 5}, 0, 4)
	put(t, r, 4, []int{5}, 0, 4)
	since(t, r, 0)
	put(t, r, 1, []int{5, 5, 5, 5, 1}, 1, 5)
	put(t, r, 4, []int{5, 6, 2}, 1, 6)
	since(t, r, 0, 1, 2)
	for frame := range 5 {
		lacks(t, r, frame)
	}
}

// TestPutInputs: 0 to 10 are known as they are, any other number as Stay.
func TestPutInputs(t *testing.T) {
	r := New(0)
	for input := range 11 {
		put(t, r, input+1, []int{input}, 1, input+1)
		tells(t, r, input+1, input)
	}
	since(t, r, 0, 0, 1, 2, 3, 4, 5, 6, 7, 8, 9, 10)
	r = New(7)
	put(t, r, 8, []int{-1, 0, 10, 11}, 4, 11)
	since(t, r, 7, 0, 0, 10, 0)
	for _, input := range noInputs {
		r := New(0)
		put(t, r, 1, []int{3, input, 3}, 3, 3)
		since(t, r, 0, 3, 0, 3)
		tells(t, r, 2, 0)
		r = made(0, input)
		tells(t, r, 1, 0)
		guesses(t, r, 2, 0)
	}
}

// TestPutMany: a row in one call, and the same one by one.
func TestPutMany(t *testing.T) {
	var l []int
	for i := range 3000 {
		l = append(l, i*i%11)
	}
	whole, single := New(2), New(2)
	put(t, whole, 3, l, 3000, 3002)
	for i, input := range l {
		put(t, single, 3+i, []int{input}, 1, 3+i)
	}
	since(t, whole, 0, l...)
	since(t, single, 0, l...)
}

// TestPutForgotten: frames that were forgotten are passed over as those that are known, and stay forgotten.
func TestPutForgotten(t *testing.T) {
	r := made(2, 1, 2, 3, 4, 5)
	r.Trim(5)
	put(t, r, 3, []int{9, 9, 9}, 0, 7)
	put(t, r, 4, []int{9}, 0, 7)
	put(t, r, 5, nil, 0, 7)
	since(t, r, 0, 4, 5)
	for frame := range 6 {
		lacks(t, r, frame)
	}
	refused(t, r, 9, []int{1}, api.ErrGap)
	put(t, r, 1, []int{9, 9, 9, 9, 9, 9, 9, 6}, 1, 8)
	since(t, r, 0, 4, 5, 6)
	lacks(t, r, 5)
	tells(t, r, 6, 4)
	r.Trim(8)
	put(t, r, 8, []int{9, 7}, 1, 9)
	since(t, r, 0, 6, 7)
	tells(t, r, 8, 6)
}

// TestPutAtTheLastNumber: nothing is known behind the last number that there is.
func TestPutAtTheLastNumber(t *testing.T) {
	r := New(math.MaxInt - 2)
	put(t, r, math.MaxInt-1, []int{1, 2, 3, 4}, 2, math.MaxInt)
	put(t, r, math.MaxInt, []int{5, 6}, 0, math.MaxInt)
	since(t, r, math.MaxInt-2, 1, 2)
	tells(t, r, math.MaxInt, 2)
	since(t, r, math.MaxInt)
	r.Trim(math.MaxInt)
	since(t, r, 0, 2)
	r = New(math.MaxInt)
	put(t, r, math.MaxInt, []int{1, 2}, 0, math.MaxInt)
	refused(t, r, math.MinInt, []int{1, 2}, api.ErrArg)
	lacks(t, r, math.MaxInt)
}

// P1702.

// TestGet: frames ahead of base, base, each that is known, and those behind Known().
func TestGet(t *testing.T) {
	for _, base := range []int{0, 1, 4, 1 << 20} {
		r := made(base, 7, 0, 10, 3)
		for _, frame := range append([]int{base - 9, base - 1, base}, early...) {
			lacks(t, r, frame)
		}
		for i, want := range []int{7, 0, 10, 3} {
			tells(t, r, base+1+i, want)
		}
		guesses(t, r, base+5, 3)
		guesses(t, r, base+6, 3)
		for _, frame := range far {
			if frame > base+4 {
				guesses(t, r, frame, 3)
			}
		}
	}
}

// TestGuess: of each input, whatever is ahead of it.
func TestGuess(t *testing.T) {
	for input, want := range []int{0, 1, 2, 3, 4, 0, 0, 0, 0, 0, 0} {
		for _, ahead := range [][]int{nil, {3}, {0, 0}, {1, 2, 10}} {
			r := made(6, append(slices.Clone(ahead), input)...)
			end := 7 + len(ahead)
			tells(t, r, end, input)
			for _, frame := range append([]int{end + 1, end + 2, end + 9}, far...) {
				guesses(t, r, frame, want)
			}
			r.Trim(math.MaxInt)
			tells(t, r, end, input)
			for _, frame := range append([]int{end + 1, end + 2, end + 9}, far...) {
				guesses(t, r, frame, want)
			}
		}
	}
}

// TestGuessOfNothing: where nothing is known, it is Stay.
func TestGuessOfNothing(t *testing.T) {
	for _, base := range []int{-7, 0, 1, 4} {
		r := New(base)
		for _, frame := range append([]int{1, 2, 5, 6}, far...) {
			guesses(t, r, frame, 0)
		}
		r.Trim(9)
		put(t, r, 1, nil, 0, max(base, 0))
		guesses(t, r, 5, 0)
	}
}

// TestGuessGoesOn: it is of the last one that is known, and is not known by that.
func TestGuessGoesOn(t *testing.T) {
	r := New(0)
	for i, input := range []int{1, 4, 0, 3, 9, 2} {
		put(t, r, i+1, []int{input}, 1, i+1)
		want := []int{1, 4, 0, 3, 0, 2}[i]
		guesses(t, r, i+2, want)
		guesses(t, r, i+9, want)
		knows(t, r, i+1)
	}
	put(t, r, 7, []int{8}, 1, 7)
	tells(t, r, 7, 8)
	guesses(t, r, 8, 0)
}

func TestSince(t *testing.T) {
	r := made(3, 5, 6, 7, 8, 9)
	for _, frame := range append([]int{1, 2, 3}, early...) {
		since(t, r, frame, 5, 6, 7, 8, 9)
	}
	since(t, r, 4, 6, 7, 8, 9)
	since(t, r, 5, 7, 8, 9)
	since(t, r, 6, 8, 9)
	since(t, r, 7, 9)
	for _, frame := range append([]int{8, 9, 10, 80}, far...) {
		since(t, r, frame)
	}
	r.Trim(5)
	for _, frame := range append([]int{3, 4, 5}, early...) {
		since(t, r, frame, 7, 8, 9)
	}
	since(t, r, 6, 8, 9)
	since(t, r, 7, 9)
	since(t, r, 8)
}

// TestTrim: at each frame, of rings from several bases.
func TestTrim(t *testing.T) {
	for _, base := range []int{0, 1, 2, 30} {
		for frame := base - 2; frame <= base+9; frame++ {
			r := made(base, 5, 1, 7, 4)
			for range 2 {
				r.Trim(frame)
				knows(t, r, base+4)
				first := min(max(frame+1, base+1), base+4)
				for f := base - 2; f < first; f++ {
					lacks(t, r, f)
				}
				for f := first; f <= base+4; f++ {
					tells(t, r, f, []int{5, 1, 7, 4}[f-base-1])
				}
				since(t, r, base, []int{5, 1, 7, 4}[first-base-1:]...)
				guesses(t, r, base+5, 4)
			}
		}
	}
}

// TestTrimFar: frames ahead of the first one forget nothing, those far behind Known() all but the last one.
func TestTrimFar(t *testing.T) {
	r := made(2, 1, 2, 3)
	for _, frame := range append([]int{1, 2}, early...) {
		r.Trim(frame)
		since(t, r, 0, 1, 2, 3)
	}
	for _, frame := range append([]int{4, 5, 6, 7}, far...) {
		r := made(2, 1, 2, 3)
		r.Trim(frame)
		knows(t, r, 5)
		since(t, r, 0, 3)
		tells(t, r, 5, 3)
		lacks(t, r, 4)
	}
}

// TestTrimNothing: of a ring in which nothing is known nothing is forgotten, and what comes then is known.
func TestTrimNothing(t *testing.T) {
	for _, frame := range append(append([]int{1, 3, 4, 5, 9}, far...), early...) {
		r := New(3)
		r.Trim(frame)
		r.Trim(frame)
		knows(t, r, 3)
		since(t, r, 0)
		refused(t, r, 5, []int{1}, api.ErrGap)
		put(t, r, 4, []int{1, 2, 3}, 3, 6)
		since(t, r, 0, 1, 2, 3)
		tells(t, r, 4, 1)
	}
}

// TestTrimThenPut: what comes behind a Trim is known, even if the Trim named a frame behind it.
func TestTrimThenPut(t *testing.T) {
	r := made(0, 1, 2, 3)
	r.Trim(9)
	put(t, r, 4, []int{4, 5}, 2, 5)
	since(t, r, 0, 3, 4, 5)
	r.Trim(3)
	since(t, r, 0, 4, 5)
	r.Trim(2)
	since(t, r, 0, 4, 5)
	r.Trim(4)
	put(t, r, 6, []int{6}, 1, 6)
	since(t, r, 0, 5, 6)
	r.Trim(5)
	since(t, r, 0, 6)
	lacks(t, r, 5)
	r.Trim(6)
	r.Trim(6)
	since(t, r, 0, 6)
	put(t, r, 7, []int{7}, 1, 7)
	tells(t, r, 6, 6)
	r.Trim(6)
	lacks(t, r, 6)
	since(t, r, 0, 7)
}

// TestTrimOn: a ring that goes on, of which the last eight frames are kept.
func TestTrimOn(t *testing.T) {
	r := New(0)
	for frame := 1; frame <= 5000; frame++ {
		put(t, r, frame, []int{frame % 11}, 1, frame)
		r.Trim(frame - 8)
		since(t, r, frame-3, []int{(frame + 9) % 11, (frame + 10) % 11, frame % 11}[max(3-frame, 0):]...)
		if l := r.Since(0); len(l) != min(frame, 8) {
			t.Fatalf("P1702: frame %d: %v", frame, l)
		}
		lacks(t, r, frame-8)
	}
}

// P1703.

// piece is a part of a row that is put.
type piece struct {
	first int
	l     []int
	n     int // how many of it are not known yet
}

// TestPieces: one row in pieces, in several orders that leave no gap, some of it twice and with other numbers the second time.
func TestPieces(t *testing.T) {
	row := []int{1, 2, 3, 4, 5, 6, 7, 8}
	for _, pieces := range [][]piece{
		{{3, row, 8}},
		{{3, row[:3], 3}, {6, row[3:], 5}},
		{{3, row[:1], 1}, {4, row[1:2], 1}, {5, row[2:7], 5}, {10, row[7:], 1}},
		{{3, row[:5], 5}, {3, row, 3}},
		{{3, row[:5], 5}, {3, []int{9, 9, 9, 9, 9, 6, 7}, 2}, {3, []int{0, 0}, 0}, {10, row[7:], 1}},
		{{3, row[:2], 2}, {3, []int{9}, 0}, {4, []int{9, 3, 4}, 2}, {1, []int{9, 9, 9, 9, 9, 9, 5, 6}, 2}, {6, []int{9, 9, 9, 7}, 1}, {10, row[7:], 1}, {10, []int{9}, 0}},
		{{1, []int{9, 9}, 0}, {2, []int{9, 1}, 1}, {2, []int{8, 8, 2}, 1}, {5, nil, 0}, {5, row[2:6], 4}, {3, []int{0, 0, 0, 0, 0, 0, 7}, 1}, {4, []int{1, 1, 1, 1, 1, 1, 8}, 1}},
	} {
		r := New(2)
		known := 2
		for _, p := range pieces {
			known += p.n
			put(t, r, p.first, p.l, p.n, known)
		}
		knows(t, r, 10)
		since(t, r, 2, row...)
		for i, input := range row {
			tells(t, r, 3+i, input)
		}
	}
}

// TestPiecesWithGaps: a piece that would leave a gap is none, and changes nothing; later it is one.
func TestPiecesWithGaps(t *testing.T) {
	r := New(2)
	refused(t, r, 6, []int{4, 5}, api.ErrGap)
	put(t, r, 3, []int{1, 2}, 2, 4)
	refused(t, r, 6, []int{4, 5}, api.ErrGap)
	put(t, r, 4, []int{7, 3}, 1, 5)
	put(t, r, 6, []int{4, 5}, 2, 7)
	since(t, r, 2, 1, 2, 3, 4, 5)
}

// P2 and P7.

// TestApart: two rings have nothing in common, even if the same row was put into both.
func TestApart(t *testing.T) {
	row := []int{1, 2, 3, 4}
	a, b := New(0), New(0)
	a.Put(1, row...)
	b.Put(1, row[:2]...)
	scrawl(row)
	since(t, a, 0, 1, 2, 3, 4)
	since(t, b, 0, 1, 2)
	put(t, b, 3, []int{9, 8, 7}, 3, 5)
	b.Trim(2)
	since(t, a, 0, 1, 2, 3, 4)
	knows(t, a, 4)
	put(t, a, 5, []int{5}, 1, 5)
	a.Trim(4)
	since(t, b, 0, 9, 8, 7)
	since(t, a, 0, 5)
	lacks(t, a, 3)
	tells(t, b, 3, 9)
	for range 40 {
		put(t, a, a.Known()+1, []int{1}, 1, a.Known()+1)
		put(t, b, b.Known()+1, []int{2}, 1, b.Known()+1)
	}
	since(t, a, 5, slices.Repeat([]int{1}, 40)...)
	since(t, b, 5, slices.Repeat([]int{2}, 40)...)
}

// TestHandedOut: rows that were told stay as they were, whatever comes then, and what one of them is changed by is not told.
func TestHandedOut(t *testing.T) {
	r := made(0, 1, 2, 3)
	l, part, none := r.Since(0), r.Since(1), r.Since(3)
	_ = append(l, 9)
	_ = append(part, 8)
	_ = append(none, 7)
	put(t, r, 4, []int{4}, 1, 4)
	r.Trim(2)
	put(t, r, 5, slices.Repeat([]int{5}, 30), 30, 34)
	if !slices.Equal(l, []int{1, 2, 3}) || !slices.Equal(part, []int{2, 3}) || len(none) != 0 {
		t.Errorf("P2: %v, %v, %v", l, part, none)
	}
	scrawl(part)
	if !slices.Equal(l, []int{1, 2, 3}) {
		t.Errorf("P2: %v", l)
	}
	since(t, r, 1, append([]int{3, 4}, slices.Repeat([]int{5}, 30)...)...)
}

// TestPutItsOwn: what a ring told can be put into it, as any other row.
func TestPutItsOwn(t *testing.T) {
	r := made(0, 1, 2, 3)
	n, e := r.Put(3, r.Since(0)...)
	if n != 2 || e != api.OK {
		t.Errorf("P1701: %d, %v", n, e)
	}
	since(t, r, 0, 1, 2, 3, 2, 3)
}
