package dice

import (
	"math"
	"math/big"
	"slices"
	"sync"
	"testing"
)

// low is the number modulo 2^64, from 0 on.
func low(n *big.Int) *big.Int {
	return n.And(n, new(big.Int).SetUint64(math.MaxUint64))
}

func hex(digits string) *big.Int {
	n, ok := new(big.Int).SetString(digits, 16)
	if !ok {
		panic(digits)
	}
	return n
}

// m is the chapter's, of numbers of any size, cut to 64 bits where it says so.
func m(x *big.Int) *big.Int {
	fold := func(by uint) { x = new(big.Int).Xor(x, new(big.Int).Rsh(x, by)) }
	times := func(digits string) { x = low(new(big.Int).Mul(x, hex(digits))) }
	fold(30)
	times("BF58476D1CE4E5B9")
	fold(27)
	times("94D049BB133111EB")
	fold(31)
	return x
}

// mixed is P201 word by word.
func mixed(seed int64, l []int) uint64 {
	g := hex("9E3779B97F4A7C15")
	x := m(low(new(big.Int).Add(big.NewInt(seed), g)))
	for _, v := range l {
		x = new(big.Int).Xor(x, low(big.NewInt(int64(v))))
		x = m(low(x.Add(x, g)))
	}
	return x.Uint64()
}

func seeds() []int64 {
	return []int64{0, 1, -1, 2, -2, 7, -5, 255, 65536, 1 << 31, -1 << 31, 1<<32 - 1, 1 << 32, 1234567, 1 << 62,
		math.MaxInt64 - 1, math.MaxInt64, math.MinInt64 + 1, math.MinInt64}
}

func rows() [][]int {
	rows := [][]int{nil, {}, {0}, {1}, {-1}, {0, 0}, {0, 0, 0}, {1, 2}, {2, 1}, {1, 2, 3}, {3, 2, 1}, {-1, 1}, {1, -1},
		{math.MaxInt}, {math.MinInt}, {math.MaxInt, math.MinInt}, {math.MinInt, math.MaxInt},
		{1 << 31, 1 << 32, -1 << 31, -1 << 32}, {math.MaxInt, 0, math.MinInt, -1, 1}}
	for _, n := range []int{8, 9, 64, 1000} {
		rows = append(rows, many(n))
	}
	return rows
}

// many is a row of n numbers below and above 0, of all sizes.
func many(n int) []int {
	row := make([]int, n)
	for i := range row {
		row[i] = (i - n/2) << (i % 60)
	}
	return row
}

// TestMixKnown: numbers that are known of this way of mixing elsewhere: those of the seeds s, s + G, s + 2G and so on.
func TestMixKnown(t *testing.T) {
	g := uint64(0x9E3779B97F4A7C15)
	for _, x := range []struct {
		seed uint64
		want []uint64
	}{
		{0, []uint64{0xE220A8397B1DCDAF, 0x6E789E6AA1B965F4, 0x06C45D188009454F, 0xF88BB8A8724C81EC}},
		{1234567, []uint64{6457827717110365317, 3203168211198807973, 9817491932198370423, 4593380528125082431, 16408922859458223821}},
	} {
		for i, want := range x.want {
			seed := int64(x.seed + uint64(i)*g)
			if got := Mix(seed); got != want {
				t.Errorf("P201: Mix(%d): %x, not %x", seed, got, want)
			}
		}
	}
}

func TestMix(t *testing.T) {
	for _, seed := range seeds() {
		for _, l := range rows() {
			if got, want := Mix(seed, l...), mixed(seed, l); got != want {
				t.Errorf("P201: Mix(%d, %d numbers): %x, not %x", seed, len(l), got, want)
			}
		}
	}
}

func TestMixVeryMany(t *testing.T) {
	l := many(1 << 20)
	// A number more is a number mixed in behind the others, how many these are.
	x := Mix(9)
	for _, v := range l {
		x = Mix(int64(x ^ uint64(v)))
	}
	if got := Mix(9, l...); got != x {
		t.Errorf("P201: %d numbers: %x, not %x", len(l), got, x)
	}
}

// TestMixNoneAndZero: no list and an empty one are the same; a 0 is not nothing.
func TestMixNoneAndZero(t *testing.T) {
	for _, seed := range seeds() {
		if none, empty := Mix(seed), Mix(seed, []int{}...); none != empty || none != Mix(seed, nil...) {
			t.Errorf("P2: Mix(%d): %x, %x", seed, none, empty)
		}
		if Mix(seed) == Mix(seed, 0) || Mix(seed, 0) == Mix(seed, 0, 0) {
			t.Errorf("P201: Mix(%d): a 0 more changes nothing", seed)
		}
		if Mix(seed, 1, 2) == Mix(seed, 2, 1) {
			t.Errorf("P201: Mix(%d): the order of the numbers changes nothing", seed)
		}
		// They differ in the highest bits alone.
		if Mix(seed, 5) == Mix(seed, 5+1<<32) || Mix(seed, 0) == Mix(seed, math.MinInt) {
			t.Errorf("P201: Mix(%d): the high bits of a number change nothing", seed)
		}
	}
}

func sides() []int {
	return []int{1, 2, 3, 4, 5, 6, 7, 10, 20, 100, 1000, 1<<31 - 1, 1 << 31, 1 << 32, 1<<32 + 1, 1<<62 - 1, 1 << 62, 1<<62 + 1,
		math.MaxInt - 1, math.MaxInt}
}

func TestDie(t *testing.T) {
	for _, n := range sides() {
		for _, seed := range seeds() {
			for _, l := range rows() {
				want := new(big.Int).SetUint64(mixed(seed, l))
				want.Mod(want, big.NewInt(int64(n)))
				if got := Die(n, seed, l...); int64(got) != want.Int64() || got < 0 || got >= n {
					t.Errorf("P202: Die(%d, %d, %d numbers): %d, not %v", n, seed, len(l), got, want)
				}
			}
		}
	}
}

// TestDieKnown: of 6457827717110365317 and others that are known.
func TestDieKnown(t *testing.T) {
	for _, x := range []struct{ n, want int }{
		{1, 0}, {2, 1}, {10, 7}, {100, 17}, {1000, 317}, {1000000, 365317}, {math.MaxInt, 6457827717110365317},
	} {
		if got := Die(x.n, 1234567); got != x.want {
			t.Errorf("P202: Die(%d, 1234567): %d, not %d", x.n, got, x.want)
		}
	}
	// E220A8397B1DCDAF is beyond the greatest int, and so below 0 where it is taken for one.
	for _, x := range []struct{ n, want int }{
		{16, 0xF}, {1 << 32, 0x7B1DCDAF}, {1 << 62, 0x2220A8397B1DCDAF}, {math.MaxInt, 0x6220A8397B1DCDB0},
	} {
		if got := Die(x.n, 0); got != x.want {
			t.Errorf("P202: Die(%d, 0): %x, not %x", x.n, got, x.want)
		}
	}
}

func TestDieOfOneSideAndFewer(t *testing.T) {
	for _, n := range []int{1, 0, -1, -2, -6, -1 << 31, math.MinInt + 1, math.MinInt} {
		for _, seed := range seeds() {
			for _, l := range rows() {
				if got := Die(n, seed, l...); got != 0 {
					t.Errorf("P202: Die(%d, %d, %d numbers): %d, not 0", n, seed, len(l), got)
				}
			}
		}
	}
}

// TestDieHasAllSides: each side comes up, and none far more often than the others.
func TestDieHasAllSides(t *testing.T) {
	const throws = 6000
	var seen [6]int
	for k := range throws {
		seen[Die(6, 7, k)]++
	}
	for side, n := range seen {
		if n < throws/6-200 || n > throws/6+200 {
			t.Errorf("P202: side %d: %d of %d", side, n, throws)
		}
	}
}

// TestSameAlways: forward, backward, with others between, from many at once: the same numbers.
func TestSameAlways(t *testing.T) {
	ask := func(seed int64, l []int) [3]uint64 {
		return [3]uint64{Mix(seed, l...), uint64(Die(6, seed, l...)), uint64(Die(math.MaxInt, seed, l...))}
	}
	var first [][3]uint64
	for _, seed := range seeds() {
		for _, l := range rows() {
			first = append(first, ask(seed, l))
		}
	}
	again := func() {
		at := len(first)
		for _, seed := range slices.Backward(seeds()) {
			for _, l := range slices.Backward(rows()) {
				at--
				if got := ask(seed, l); got != first[at] || got != ask(seed, l) {
					t.Errorf("P203: %d, %d numbers: %x, then %x", seed, len(l), first[at], got)
				}
			}
		}
	}
	var all sync.WaitGroup
	for range 4 {
		all.Go(again)
	}
	all.Wait()
	again()
}

// TestRowStays: the row that is handed in, and its spare room, stay as they were.
func TestRowStays(t *testing.T) {
	for _, l := range rows() {
		whole := append(slices.Clone(l), 11, -12, 13)
		kept := slices.Clone(whole)
		row := whole[:len(l)]
		mix, die := Mix(3, row...), Die(20, 3, row...)
		if !slices.Equal(whole, kept) {
			t.Errorf("P2: %v became %v", kept, whole)
		}
		// What is done to the row behind a call is not seen in the next one's answer.
		for i := range row {
			row[i]++
		}
		Mix(3, row...)
		if Mix(3, l...) != mix || Die(20, 3, l...) != die {
			t.Errorf("P203: %d numbers: a row that was handed in is kept", len(l))
		}
	}
}
