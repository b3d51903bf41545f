// Package fix: whole numbers that stand for parts, and turns. See doc/01-fix.md.
package fix

import (
	"adit/api"
)

// One is 1 in parts of 65536.
const One = 1 << 16

// most is how far from 0 a number of parts may be.
const most = 1 << 31

// Mul is the product of two numbers of parts, rounded down.
func Mul(a, b int) int {
	// A shift to the right rounds down below 0 too; a division would round toward 0.
	return a * b >> 16
}

// Div is the quotient of two numbers of parts, rounded down.
func Div(a, b int) (int, api.Errno) {
	if b == 0 || a < -most || a > most {
		return 0, api.ErrArg
	}
	return floorDiv(a*One, b), api.OK
}

// floorDiv divides by b, which is not 0. Go rounds toward 0: that is one too many where the quotient is below 0 and not whole.
func floorDiv(n, b int) int {
	q := n / b
	if n%b != 0 && (n < 0) != (b < 0) {
		q--
	}
	return q
}

// Root is the greatest number whose square is at most n; 0, if n is below 0.
func Root(n int) int {
	if n < 0 {
		return 0
	}
	// Unsigned, as the square of a number that is tried may be beyond the greatest int.
	var root uint64
	for bit := uint64(1) << 31; bit > 0; bit >>= 1 {
		if tried := root | bit; tried*tried <= uint64(n) {
			root = tried
		}
	}
	return int(root)
}

// Dist is how far a step goes, in 256ths of a cell.
func Dist(dx, dy int) int {
	return Root((dx*dx + dy*dy) * One)
}

// Turn turns a step by quarters, from east to south; below 0 the other way about.
func Turn(dx, dy, quarters int) (int, int) {
	step := complex(float64(dx), float64(dy))
	// y goes south, so i is the quarter from east to south. The low two bits are the rest by four below 0 too.
	for range quarters & 3 {
		step *= 1i
	}
	return int(real(step)), int(imag(step))
}

// Way is the step of an input: North, East, South, West; of others none.
func Way(input int) (int, int) {
	if input < api.North || input > api.West {
		return 0, 0
	}
	// The inputs follow each other as the quarters do.
	return Turn(0, -1, input-api.North)
}
