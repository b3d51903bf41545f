package fix

import (
	"math"
	"math/big"
	"testing"

	"adit/api"
)

// around tells each of some numbers, both neighbours, and all of these with the other sign, as far as they are at most that far from 0.
func around(most int, numbers ...int) []int {
	var out []int
	for _, n := range numbers {
		for _, near := range []int{n - 1, n, n + 1} {
			if near <= most {
				out = append(out, near, -near)
			}
		}
	}
	return out
}

// parts are numbers that Mul and Div take, up to their bounds.
func parts() []int {
	return around(1<<31, 0, 3, 7, 255, One/2, One, 3*One, 5*One/2, 1<<20, 1000003, 1<<30, 1<<31)
}

// floor is a / b rounded down, of numbers of any size.
func floor(a, b *big.Int) *big.Int {
	quotient, rest := new(big.Int), new(big.Int)
	quotient.QuoRem(a, b, rest)
	if rest.Sign() != 0 && rest.Sign() != b.Sign() {
		quotient.Sub(quotient, big.NewInt(1))
	}
	return quotient
}

func bigOf(n int) *big.Int { return big.NewInt(int64(n)) }

func TestOne(t *testing.T) {
	if One != 65536 {
		t.Errorf("P101: One is %d", One)
	}
}

func TestMul(t *testing.T) {
	for _, x := range []struct{ a, b, want int }{
		{-1, 1, -1},
		{1, -1, -1},
		{-1, -1, 0},
		{1, 1, 0},
		{0, -5, 0},
		{One, One, One},
		{2 * One, 3 * One, 6 * One},
		{-2 * One, 3 * One, -6 * One},
		{One / 2, One / 2, One / 4},
		{One - 1, 1, 0},
		{One + 1, 1, 1},
		{One - 1, -1, -1},
		{One + 1, -1, -2},
		{-One, 1, -1},
		{1 << 31, 1 << 31, 1 << 46},
		{-1 << 31, 1 << 31, -1 << 46},
		{-1 << 31, -1 << 31, 1 << 46},
		{1<<31 - 1, -1 << 31, -1<<46 + 1<<15},
	} {
		if got := Mul(x.a, x.b); got != x.want {
			t.Errorf("P101: Mul(%d, %d): %d, not %d", x.a, x.b, got, x.want)
		}
	}
}

func TestMulRoundsDown(t *testing.T) {
	for _, a := range parts() {
		for _, b := range parts() {
			want := floor(new(big.Int).Mul(bigOf(a), bigOf(b)), big.NewInt(65536))
			if got := Mul(a, b); bigOf(got).Cmp(want) != 0 {
				t.Errorf("P101: Mul(%d, %d): %d, not %v", a, b, got, want)
			}
		}
	}
}

func TestDiv(t *testing.T) {
	for _, x := range []struct{ a, b, want int }{
		{1, 1, One},
		{7, 2, 7 * One / 2},
		{-7, 2, -7 * One / 2},
		{1, 3, 21845},
		{-1, 3, -21846},
		{1, -3, -21846},
		{-1, -3, 21845},
		{-6, 3, -2 * One},
		{6, -3, -2 * One},
		{0, 5, 0},
		{0, -5, 0},
		{1, One, 1},
		{1, One + 1, 0},
		{-1, One + 1, -1},
		{1 << 31, 1, 1 << 47},
		{-1 << 31, 1, -1 << 47},
		{1 << 31, -1, -1 << 47},
		{-1 << 31, -1, 1 << 47},
		{1, math.MaxInt, 0},
		{-1, math.MaxInt, -1},
		{1, math.MinInt, -1},
		{-1, math.MinInt, 0},
		{0, math.MinInt, 0},
	} {
		if got, err := Div(x.a, x.b); got != x.want || err != api.OK {
			t.Errorf("P101: Div(%d, %d): %d, %v, not %d", x.a, x.b, got, err, x.want)
		}
	}
}

func TestDivRoundsDown(t *testing.T) {
	divisors := append(parts(), around(math.MaxInt-1, 1<<40, 1<<47, 1<<48, 1<<62)...)
	divisors = append(divisors, math.MaxInt, math.MinInt)
	for _, a := range parts() {
		for _, b := range divisors {
			if b == 0 {
				continue
			}
			want := floor(new(big.Int).Mul(bigOf(a), big.NewInt(65536)), bigOf(b))
			if got, err := Div(a, b); bigOf(got).Cmp(want) != 0 || err != api.OK {
				t.Errorf("P101: Div(%d, %d): %d, %v, not %v", a, b, got, err, want)
			}
		}
	}
}

func TestDivRefuses(t *testing.T) {
	for _, a := range append(parts(), math.MaxInt, math.MinInt) {
		if got, err := Div(a, 0); got != 0 || err != api.ErrArg {
			t.Errorf("P101, P4: Div(%d, 0): %d, %v", a, got, err)
		}
	}
	for _, a := range []int{1<<31 + 1, -1<<31 - 1, 1 << 47, math.MaxInt, math.MinInt} {
		for _, b := range []int{1, -1, 3, One, math.MaxInt, math.MinInt} {
			if got, err := Div(a, b); got != 0 || err != api.ErrArg {
				t.Errorf("P9, P4: Div(%d, %d): %d, %v", a, b, got, err)
			}
		}
	}
}

// isRoot tells whether r is the root of n, by numbers of any size: r r is at most n, and the square of one more is above it.
func isRoot(r, n int) bool {
	square := new(big.Int).Mul(bigOf(r), bigOf(r))
	more := new(big.Int).Add(bigOf(r), big.NewInt(1))
	more.Mul(more, more)
	return r >= 0 && square.Cmp(bigOf(n)) <= 0 && more.Cmp(bigOf(n)) > 0
}

func TestRoot(t *testing.T) {
	for _, x := range []struct{ n, want int }{
		{0, 0}, {1, 1}, {2, 1}, {3, 1}, {4, 2}, {8, 2}, {9, 3}, {99, 9}, {100, 10},
		{1 << 62, 1 << 31},
		{1<<62 - 1, 1<<31 - 1},
		{math.MaxInt - 1, 3037000499},
		{math.MaxInt, 3037000499},
	} {
		if got := Root(x.n); got != x.want {
			t.Errorf("P102: Root(%d): %d, not %d", x.n, got, x.want)
		}
	}
}

func TestRootBelowZero(t *testing.T) {
	for _, n := range []int{-1, -2, -4, -9, -1 << 31, -1 << 62, math.MinInt + 1, math.MinInt} {
		if got := Root(n); got != 0 {
			t.Errorf("P102: Root(%d): %d", n, got)
		}
	}
}

func TestRootOfSmallNumbers(t *testing.T) {
	for n := range 70000 {
		if got := Root(n); !isRoot(got, n) {
			t.Fatalf("P102, P104: Root(%d): %d", n, got)
		}
	}
}

func TestRootAroundSquares(t *testing.T) {
	roots := []int{3037000498, 3037000499, 94906265, 94906266, 94906267}
	for bit := range 32 {
		roots = append(roots, 1<<bit, 1<<bit+1, 1<<bit+1<<bit/2)
	}
	for _, r := range roots {
		if r > 3037000499 {
			continue
		}
		if got := Root(r * r); got != r {
			t.Errorf("P102: Root(%d): %d, not %d", r*r, got, r)
		}
		if got := Root(r*r - 1); got != r-1 {
			t.Errorf("P102: Root(%d): %d, not %d", r*r-1, got, r-1)
		}
		if got := Root(r*r + 1); !isRoot(got, r*r+1) {
			t.Errorf("P104: Root(%d): %d", r*r+1, got)
		}
		if got := Root(r*r + r + r); r < 3037000499 && got != r {
			t.Errorf("P102: Root(%d): %d, not %d", r*r+r+r, got, r)
		}
	}
}

func TestRootOfGreatNumbers(t *testing.T) {
	for n := math.MaxInt; n > 0; n -= n/7 + 1 {
		if got := Root(n); !isRoot(got, n) {
			t.Errorf("P104: Root(%d): %d", n, got)
		}
	}
}

func TestDist(t *testing.T) {
	for _, x := range []struct{ dx, dy, want int }{
		{3, 4, 1280},
		{-3, 4, 1280},
		{3, -4, 1280},
		{-4, -3, 1280},
		{0, 0, 0},
		{1, 0, 256},
		{0, -1, 256},
		{1, 1, 362},
		{2, 1, 572},
		{0, 6, 6 * 256},
		{1, 6, 1557},
		{1 << 20, 0, 1 << 28},
		{0, -1 << 20, 1 << 28},
		{1 << 20, 1 << 20, 379625062},
		{-1 << 20, -1 << 20, 379625062},
	} {
		if got := Dist(x.dx, x.dy); got != x.want {
			t.Errorf("P102: Dist(%d, %d): %d, not %d", x.dx, x.dy, got, x.want)
		}
	}
}

func TestDistIsTheRoot(t *testing.T) {
	steps := around(1<<20, 0, 5, 23, 1000, 1<<15, 1<<20)
	for _, dx := range steps {
		for _, dy := range steps {
			if got := Dist(dx, dy); !isRoot(got, 65536*(dx*dx+dy*dy)) {
				t.Errorf("P102: Dist(%d, %d): %d", dx, dy, got)
			}
		}
	}
}

func TestTurnGoesRound(t *testing.T) {
	round := [4][2]int{{1, 0}, {0, 1}, {-1, 0}, {0, -1}} // east, south, west, north
	for from, step := range round {
		for quarters := -9; quarters <= 9; quarters++ {
			want := round[(from+quarters+12)%4]
			if x, y := Turn(step[0], step[1], quarters); x != want[0] || y != want[1] {
				t.Errorf("P103: Turn(%d, %d, %d): %d, %d", step[0], step[1], quarters, x, y)
			}
		}
	}
}

func TestTurnByAnyQuarters(t *testing.T) {
	for _, x := range []struct{ quarters, x, y int }{
		{0, 3, -2}, {1, 2, 3}, {2, -3, 2}, {3, -2, -3}, {4, 3, -2}, {5, 2, 3},
		{-1, -2, -3}, {-2, -3, 2}, {-3, 2, 3}, {-4, 3, -2}, {-5, -2, -3},
		{1 << 62, 3, -2}, {1<<62 + 1, 2, 3}, {-1<<62 - 1, -2, -3},
		{math.MaxInt, -2, -3}, {math.MaxInt - 1, -3, 2},
		{math.MinInt, 3, -2}, {math.MinInt + 1, 2, 3},
	} {
		if gotX, gotY := Turn(3, -2, x.quarters); gotX != x.x || gotY != x.y {
			t.Errorf("P103: Turn(3, -2, %d): %d, %d, not %d, %d", x.quarters, gotX, gotY, x.x, x.y)
		}
	}
}

// turned is a step turned as the document says it, a quarter at a time.
func turned(dx, dy, quarters int) (int, int) {
	for range quarters {
		dx, dy = -dy, dx
	}
	return dx, dy
}

func TestTurnUpToItsBounds(t *testing.T) {
	steps := around(1<<50, 0, 23, 1<<31, 1<<50)
	for _, dx := range steps {
		for _, dy := range steps {
			for quarters := range 4 {
				wantX, wantY := turned(dx, dy, quarters)
				for _, q := range []int{quarters, quarters - 4, quarters + 4<<40, quarters - 4<<40} {
					if x, y := Turn(dx, dy, q); x != wantX || y != wantY {
						t.Errorf("P103: Turn(%d, %d, %d): %d, %d", dx, dy, q, x, y)
					}
				}
			}
		}
	}
}

func TestFourQuartersChangeNothing(t *testing.T) {
	steps := around(1<<50, 0, 7, 1<<50)
	for _, dx := range steps {
		for _, dy := range steps {
			x, y := dx, dy
			for range 4 {
				x, y = Turn(x, y, 1)
			}
			if x != dx || y != dy {
				t.Errorf("P104: (%d, %d) turned by one four times: %d, %d", dx, dy, x, y)
			}
			for _, quarters := range []int{4, -4, 400, 1 << 62} {
				if x, y := Turn(dx, dy, quarters); x != dx || y != dy {
					t.Errorf("P104: Turn(%d, %d, %d): %d, %d", dx, dy, quarters, x, y)
				}
			}
		}
	}
}

func TestWay(t *testing.T) {
	for _, x := range []struct{ input, x, y int }{
		{api.North, 0, -1}, {api.East, 1, 0}, {api.South, 0, 1}, {api.West, -1, 0},
	} {
		if gotX, gotY := Way(x.input); gotX != x.x || gotY != x.y {
			t.Errorf("P103: Way(%d): %d, %d", x.input, gotX, gotY)
		}
	}
}

func TestWayOfOthers(t *testing.T) {
	others := []int{api.Stay, -1, -2, -3, -4, 11, 99, 256 + api.North, 1<<32 + api.East, math.MaxInt, math.MinInt, math.MinInt + api.North}
	for input := api.Pick; input <= api.Buy; input++ {
		others = append(others, input)
	}
	for _, input := range others {
		if x, y := Way(input); x != 0 || y != 0 {
			t.Errorf("P103: Way(%d): %d, %d", input, x, y)
		}
	}
}

// answers is all that the calls of the package answer to three numbers.
func answers(a, b, c int) [9]int {
	quotient, err := Div(a, b)
	turnX, turnY := Turn(a, b, c)
	wayX, wayY := Way(c)
	return [9]int{Mul(a, b), quotient, int(err), Root(a), Dist(a, b), turnX, turnY, wayX, wayY}
}

func TestAnyNumbers(t *testing.T) {
	wild := []int{math.MinInt, math.MinInt + 1, -1 << 51, -1<<31 - 1, -1, 0, 1, 1<<20 + 1, 1<<31 + 1, 1 << 53, math.MaxInt - 1, math.MaxInt}
	for _, a := range wild {
		for _, b := range wild {
			for _, c := range wild {
				if answers(a, b, c) != answers(a, b, c) { // P1: a panic would end the test
					t.Errorf("P3: %d, %d, %d: twice the same is not the same", a, b, c)
				}
			}
		}
	}
}
