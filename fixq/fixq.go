// Package fixq reckons with whole numbers of 64 bits, and tells where a result has no room.
package fixq

import (
	"math/bits"

	"teetotum/api"
)

const (
	greatest int64 = 1<<63 - 1
	least    int64 = -1 << 63
)

// Shift takes powers of 2 from 2^leastShift to 2^mostShift: 2^63 is above the greatest number.
const (
	leastShift = -63
	mostShift  = 62
)

// way is where a quotient that is not whole goes.
type way int

const (
	down way = iota
	nearest
	up
)

// Add is the sum of both.
func Add(a, b int64) (int64, api.Errno) {
	if b > 0 && a > greatest-b || b < 0 && a < least-b {
		return 0, api.ErrOver
	}
	return a + b, api.OK
}

// Sub is a less b.
func Sub(a, b int64) (int64, api.Errno) {
	if b > 0 && a < least+b || b < 0 && a > greatest+b {
		return 0, api.ErrOver
	}
	return a - b, api.OK
}

// Mul is the product of both.
func Mul(a, b int64) (int64, api.Errno) {
	return MulDiv(a, b, 1)
}

// Sat is the sum of both, or the end of the numbers that it is beyond.
func Sat(a, b int64) int64 {
	sum, err := Add(a, b)
	switch {
	case err == api.OK:
		return sum
	case b < 0:
		return least
	default:
		return greatest
	}
}

// Neg is the opposite of a.
func Neg(a int64) int64 {
	switch a {
	case least: // its opposite has no room, that of the number beside it is the greatest there is
		a++
		fallthrough
	default:
		return -a
	}
}

// Abs is how far a is from 0.
func Abs(a int64) int64 {
	if a < 0 {
		return Neg(a)
	}
	return a
}

// Floor is a / b, rounded down.
func Floor(a, b int64) (int64, api.Errno) {
	return divide(a, b, down)
}

// Ceil is a / b, rounded up.
func Ceil(a, b int64) (int64, api.Errno) {
	return divide(a, b, up)
}

// Round is a / b, rounded to the nearest number, up from the middle.
func Round(a, b int64) (int64, api.Errno) {
	return divide(a, b, nearest)
}

func divide(a, b int64, to way) (int64, api.Errno) {
	switch {
	case b == 0:
		return 0, api.ErrArg
	case a == least && b == -1:
		return 0, api.ErrOver
	}
	q, left := split(a, b)
	switch to {
	case nearest:
		if size(left) < size(b)-size(left) { // twice what is left may have no room
			break
		}
		fallthrough
	case up:
		if left != 0 {
			q++
		}
	}
	return q, api.OK
}

// split is a / b, rounded down, and what is left, which is on b's side of 0. The caller sees to it that there is room.
func split(a, b int64) (int64, int64) {
	q, left := a/b, a%b
	if left != 0 && (left < 0) != (b < 0) {
		return q - 1, left + b
	}
	return q, left
}

// size is how far a is from 0; unlike Abs it is exact of the least number too.
func size(a int64) uint64 {
	if a < 0 {
		return -uint64(a)
	}
	return uint64(a)
}

// signed is the number of that size, below 0 or not.
func signed(size uint64, below bool) (int64, api.Errno) {
	const first = 1 << 63 // of all sizes the first that only a number below 0 has
	switch {
	case size > first, size == first && !below:
		return 0, api.ErrOver
	case below:
		return int64(-size), api.OK
	default:
		return int64(size), api.OK
	}
}

// Shift is a times 2 to the power n, rounded down.
func Shift(a int64, n int) (int64, api.Errno) {
	switch {
	case n < leastShift || n > mostShift:
		return 0, api.ErrArg
	case n < 1:
		return a >> -n, api.OK
	default:
		return Mul(a, 1<<n)
	}
}

// Clamp brings a between low and high; where these are crossed, low counts.
func Clamp(a, low, high int64) int64 {
	return max(min(a, high), low)
}

// MulDiv is a times b, by d, rounded down once, at the end.
func MulDiv(a, b, d int64) (int64, api.Errno) {
	if d < 1 {
		return 0, api.ErrArg
	}
	high, low := bits.Mul64(size(a), size(b))
	if high >= uint64(d) { // the quotient's size has no room in 64 bits
		return 0, api.ErrOver
	}
	whole, left := bits.Div64(high, low, uint64(d))
	below := (a < 0) != (b < 0)
	q, err := signed(whole, below)
	if err != api.OK || !below || left == 0 {
		return q, err
	}
	return Sub(q, 1)
}

// Mean is half the sum of both, rounded down.
func Mean(a, b int64) int64 {
	// What both have in common counts whole, what only one has by half: so the sum needs no room.
	return a&b + (a^b)>>1
}

// Lerp is the number that lies at / of of the way from a to b.
func Lerp(a, b, at, of int64) (int64, api.Errno) {
	far, err := Sub(b, a)
	if err != api.OK {
		return 0, err
	}
	part, err := MulDiv(far, at, of)
	if err != api.OK {
		return 0, err
	}
	return Add(a, part)
}

// Slew is now, or what is nearest to it of all that is no farther from old than most.
func Slew(old, now, most int64) int64 {
	if most < 0 {
		return old
	}
	return Clamp(now, Sat(old, Neg(most)), Sat(old, most))
}

// Wrap is a, less all whole turns, as near to 0 as may be: half a turn is below 0.
func Wrap(a, turn int64) int64 {
	if turn < 1 {
		return 0
	}
	_, left := split(a, turn)
	if left > (turn-1)/2 {
		return left - turn
	}
	return left
}
