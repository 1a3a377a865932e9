package fixq_test

import (
	"fmt"
	"math"
	"math/big"
	"testing"

	"teetotum/api"
	"teetotum/fixq"
)

const (
	greatest int64 = math.MaxInt64
	least    int64 = math.MinInt64
)

// edges are numbers beside which something changes: 0, the roots of the room, its halves and its ends.
func edges() []int64 {
	l := []int64{0, 1, 2, 3, 5, 7, 360, 1<<31 - 1, 1 << 31, 1 << 32, 1<<62 - 1, 1 << 62, 1<<62 + 1, greatest - 1, greatest}
	for _, x := range l[1:] {
		l = append(l, -x)
	}
	return append(l, least)
}

// small are all numbers near 0.
func small() []int64 {
	var l []int64
	for x := int64(-25); x <= 25; x++ {
		l = append(l, x)
	}
	return l
}

// eachPair calls f with pairs of numbers near 0, and with pairs of the edges.
func eachPair(f func(a, b int64)) {
	for _, l := range [][]int64{small(), edges()} {
		for _, a := range l {
			for _, b := range l {
				f(a, b)
			}
		}
	}
}

func eachTriple(f func(a, b, c int64)) {
	for _, a := range edges() {
		eachPair(func(b, c int64) { f(a, b, c) })
	}
}

func bigOf(a int64) *big.Int { return big.NewInt(a) }

func plus(a, b *big.Int) *big.Int  { return new(big.Int).Add(a, b) }
func minus(a, b *big.Int) *big.Int { return new(big.Int).Sub(a, b) }
func times(a, b *big.Int) *big.Int { return new(big.Int).Mul(a, b) }

// floorOf is a / b, rounded down. big's Div leaves what is not below 0, so b is brought above 0 first.
func floorOf(a, b *big.Int) *big.Int {
	if b.Sign() < 0 {
		a, b = new(big.Int).Neg(a), new(big.Int).Neg(b)
	}
	return new(big.Int).Div(a, b)
}

func ceilOf(a, b *big.Int) *big.Int {
	q := floorOf(new(big.Int).Neg(a), b)
	return q.Neg(q)
}

// roundOf is the greatest whole number not above a / b and a half.
func roundOf(a, b *big.Int) *big.Int {
	return floorOf(plus(plus(a, a), b), plus(b, b))
}

// hold fails if got and err are not what is exact, or ErrOver and 0 where that has no room.
func hold(t *testing.T, what string, got int64, err api.Errno, exact *big.Int) {
	t.Helper()
	switch {
	case !exact.IsInt64():
		fails(t, what, got, err, api.ErrOver)
	case err != api.OK || got != exact.Int64():
		t.Fatalf("%s: %d, error %d, want %s", what, got, err, exact)
	}
}

// fails fails if the answer is not that error and 0.
func fails(t *testing.T, what string, got int64, err, want api.Errno) {
	t.Helper()
	if err != want || got != 0 {
		t.Fatalf("%s: %d, error %d, want 0, error %d", what, got, err, want)
	}
}

func is(t *testing.T, what string, got, want int64) {
	t.Helper()
	if got != want {
		t.Fatalf("%s: %d, want %d", what, got, want)
	}
}

func call(name string, args ...int64) string {
	return name + fmt.Sprint(args)
}

// row is a call's arguments, and what is asked of it.
type row struct {
	a, b, want int64
	err        api.Errno
}

func checkRows(t *testing.T, name string, f func(a, b int64) (int64, api.Errno), rows []row) {
	t.Helper()
	for _, r := range rows {
		got, err := f(r.a, r.b)
		if got != r.want || err != r.err {
			t.Errorf("%s: %d, error %d, want %d, error %d", call(name, r.a, r.b), got, err, r.want, r.err)
		}
	}
}

// P1.1: sums, differences and products, or that they have no room.
func TestP1AddSubMul(t *testing.T) {
	checkRows(t, "Add", fixq.Add, []row{
		{2, 3, 5, api.OK},
		{-2, -3, -5, api.OK},
		{greatest, 0, greatest, api.OK},
		{greatest - 1, 1, greatest, api.OK},
		{greatest, 1, 0, api.ErrOver},
		{greatest, greatest, 0, api.ErrOver},
		{least + 1, -1, least, api.OK},
		{least, -1, 0, api.ErrOver},
		{least, least, 0, api.ErrOver},
		{least, greatest, -1, api.OK},
	})
	checkRows(t, "Sub", fixq.Sub, []row{
		{2, 3, -1, api.OK},
		{least, least, 0, api.OK},
		{least + 1, 1, least, api.OK},
		{least, 1, 0, api.ErrOver},
		{greatest - 1, -1, greatest, api.OK},
		{greatest, -1, 0, api.ErrOver},
		{-1, least, greatest, api.OK},
		{0, least, 0, api.ErrOver},
		{greatest, least, 0, api.ErrOver},
	})
	checkRows(t, "Mul", fixq.Mul, []row{
		{-6, 7, -42, api.OK},
		{-6, -7, 42, api.OK},
		{0, least, 0, api.OK},
		{least, 1, least, api.OK},
		{least, -1, 0, api.ErrOver},
		{-1, least, 0, api.ErrOver},
		{greatest, -1, -greatest, api.OK},
		{greatest, 2, 0, api.ErrOver},
		{1 << 32, 1 << 31, 0, api.ErrOver},
		{1 << 32, -(1 << 31), least, api.OK},
		{1 << 62, 2, 0, api.ErrOver},
		{1 << 62, 4, 0, api.ErrOver},
		{1 << 62, -2, least, api.OK},
		{3037000499, 3037000499, 9223372030926249001, api.OK},
		{3037000500, 3037000500, 0, api.ErrOver},
	})
}

func TestP1AddSubMulOfAll(t *testing.T) {
	eachPair(func(a, b int64) {
		x, y := bigOf(a), bigOf(b)
		sum, err := fixq.Add(a, b)
		hold(t, call("Add", a, b), sum, err, plus(x, y))
		difference, err := fixq.Sub(a, b)
		hold(t, call("Sub", a, b), difference, err, minus(x, y))
		product, err := fixq.Mul(a, b)
		hold(t, call("Mul", a, b), product, err, times(x, y))
	})
}

// P1.2: the sum, or the end that it is beyond.
func TestP2Sat(t *testing.T) {
	is(t, "Sat", fixq.Sat(2, -5), -3)
	is(t, "Sat", fixq.Sat(greatest, 1), greatest)
	is(t, "Sat", fixq.Sat(1, greatest), greatest)
	is(t, "Sat", fixq.Sat(least, -1), least)
	is(t, "Sat", fixq.Sat(-1, least), least)
	is(t, "Sat", fixq.Sat(least, greatest), -1)
	eachPair(func(a, b int64) {
		want := plus(bigOf(a), bigOf(b))
		if want.Cmp(bigOf(greatest)) > 0 {
			want = bigOf(greatest)
		}
		if want.Cmp(bigOf(least)) < 0 {
			want = bigOf(least)
		}
		is(t, call("Sat", a, b), fixq.Sat(a, b), want.Int64())
	})
}

// P1.3: the opposite and the size; the least number's are the greatest number.
func TestP3NegAbs(t *testing.T) {
	for _, r := range []struct{ a, neg, abs int64 }{
		{0, 0, 0},
		{1, -1, 1},
		{-1, 1, 1},
		{-7, 7, 7},
		{greatest, -greatest, greatest},
		{-greatest, greatest, greatest},
		{least, greatest, greatest},
	} {
		is(t, call("Neg", r.a), fixq.Neg(r.a), r.neg)
		is(t, call("Abs", r.a), fixq.Abs(r.a), r.abs)
	}
}

// P1.4: quotients rounded down and up, a divisor of 0 and of either sign.
func TestP4FloorCeil(t *testing.T) {
	checkRows(t, "Floor", fixq.Floor, []row{
		{7, 2, 3, api.OK},
		{-7, 2, -4, api.OK},
		{7, -2, -4, api.OK},
		{-7, -2, 3, api.OK},
		{-6, 2, -3, api.OK},
		{6, -2, -3, api.OK},
		{1, greatest, 0, api.OK},
		{-1, greatest, -1, api.OK},
		{1, least, -1, api.OK},
		{-1, least, 0, api.OK},
		{least, least, 1, api.OK},
		{least, 1, least, api.OK},
		{greatest, -1, -greatest, api.OK},
		{least, -1, 0, api.ErrOver},
		{1, 0, 0, api.ErrArg},
		{0, 0, 0, api.ErrArg},
		{least, 0, 0, api.ErrArg},
	})
	checkRows(t, "Ceil", fixq.Ceil, []row{
		{7, 2, 4, api.OK},
		{-7, 2, -3, api.OK},
		{7, -2, -3, api.OK},
		{-7, -2, 4, api.OK},
		{-6, 2, -3, api.OK},
		{6, 2, 3, api.OK},
		{1, greatest, 1, api.OK},
		{-1, greatest, 0, api.OK},
		{1, least, 0, api.OK},
		{-1, least, 1, api.OK},
		{least, 1, least, api.OK},
		{least, -1, 0, api.ErrOver},
		{1, 0, 0, api.ErrArg},
		{0, 0, 0, api.ErrArg},
		{least, 0, 0, api.ErrArg},
	})
}

// P1.5: quotients rounded to the nearest, of two the greater one.
func TestP5Round(t *testing.T) {
	checkRows(t, "Round", fixq.Round, []row{
		{5, 2, 3, api.OK},
		{-5, 2, -2, api.OK},
		{5, -2, -2, api.OK},
		{-5, -2, 3, api.OK},
		{-7, 2, -3, api.OK},
		{4, 3, 1, api.OK},
		{5, 3, 2, api.OK},
		{-4, 3, -1, api.OK},
		{-5, 3, -2, api.OK},
		{6, 3, 2, api.OK},
		{0, -3, 0, api.OK},
		{1 << 62, least, 0, api.OK},
		{1<<62 + 1, least, -1, api.OK},
		{-(1 << 62), least, 1, api.OK},
		{1 - 1<<62, least, 0, api.OK},
		{greatest, least, -1, api.OK},
		{least, greatest, -1, api.OK},
		{greatest, 2, 1 << 62, api.OK},
		{least, 1, least, api.OK},
		{least, -1, 0, api.ErrOver},
		{5, 0, 0, api.ErrArg},
		{0, 0, 0, api.ErrArg},
	})
}

func TestP4P5QuotientsOfAll(t *testing.T) {
	quotients := []struct {
		name  string
		f     func(a, b int64) (int64, api.Errno)
		exact func(a, b *big.Int) *big.Int
	}{
		{"Floor", fixq.Floor, floorOf},
		{"Ceil", fixq.Ceil, ceilOf},
		{"Round", fixq.Round, roundOf},
	}
	for _, q := range quotients {
		eachPair(func(a, b int64) {
			got, err := q.f(a, b)
			if b == 0 {
				fails(t, call(q.name, a, b), got, err, api.ErrArg)
				return
			}
			hold(t, call(q.name, a, b), got, err, q.exact(bigOf(a), bigOf(b)))
		})
	}
}

// P1.6: powers of 2, from the least n to the greatest, and beyond both.
func TestP6Shift(t *testing.T) {
	for _, r := range []struct {
		a    int64
		n    int
		want int64
		err  api.Errno
	}{
		{5, 0, 5, api.OK},
		{5, 1, 10, api.OK},
		{-5, 3, -40, api.OK},
		{5, -1, 2, api.OK},
		{-5, -1, -3, api.OK},
		{-1, -63, -1, api.OK},
		{greatest, -63, 0, api.OK},
		{least, -63, -1, api.OK},
		{least, -62, -2, api.OK},
		{1, 62, 1 << 62, api.OK},
		{-2, 62, least, api.OK},
		{2, 62, 0, api.ErrOver},
		{-3, 62, 0, api.ErrOver},
		{0, 62, 0, api.OK},
		{greatest, 1, 0, api.ErrOver},
		{least, 1, 0, api.ErrOver},
		{least, 0, least, api.OK},
		{1, 63, 0, api.ErrArg},
		{0, 63, 0, api.ErrArg},
		{greatest, 63, 0, api.ErrArg},
		{1, -64, 0, api.ErrArg},
		{1, math.MaxInt, 0, api.ErrArg},
		{1, math.MinInt, 0, api.ErrArg},
	} {
		got, err := fixq.Shift(r.a, r.n)
		if got != r.want || err != r.err {
			t.Errorf("Shift(%d, %d): %d, error %d, want %d, error %d", r.a, r.n, got, err, r.want, r.err)
		}
	}
}

func TestP6ShiftOfAll(t *testing.T) {
	for _, a := range edges() {
		for n := -66; n <= 66; n++ {
			got, err := fixq.Shift(a, n)
			what := call("Shift", a, int64(n))
			switch {
			case n < -63 || n > 62:
				fails(t, what, got, err, api.ErrArg)
			case n < 0:
				hold(t, what, got, err, new(big.Int).Rsh(bigOf(a), uint(-n)))
			default:
				hold(t, what, got, err, new(big.Int).Lsh(bigOf(a), uint(n)))
			}
		}
	}
}

// P1.7: first not above high, then not below low, which counts where both are crossed.
func TestP7Clamp(t *testing.T) {
	for _, r := range []struct{ a, low, high, want int64 }{
		{4, 1, 9, 4},
		{1, 1, 9, 1},
		{9, 1, 9, 9},
		{0, 1, 9, 1},
		{10, 1, 9, 9},
		{7, 3, 3, 3},
		{1, 5, 3, 5},
		{4, 5, 3, 5},
		{9, 5, 3, 5},
		{greatest, least, 0, 0},
		{least, 0, greatest, 0},
		{least, least, greatest, least},
		{greatest, least, greatest, greatest},
		{0, greatest, least, greatest},
	} {
		is(t, call("Clamp", r.a, r.low, r.high), fixq.Clamp(r.a, r.low, r.high), r.want)
	}
}

// P1.8 and P1.15: a product by a number, exact though the product alone has no room.
func TestP8P15MulDiv(t *testing.T) {
	for _, r := range []struct {
		a, b, d, want int64
		err           api.Errno
	}{
		{6, 7, 4, 10, api.OK},
		{-6, 7, 4, -11, api.OK},
		{6, -7, 4, -11, api.OK},
		{-6, -7, 4, 10, api.OK},
		{-6, 2, 4, -3, api.OK},
		{0, least, 3, 0, api.OK},
		{least, 0, 1, 0, api.OK},
		{greatest, greatest, greatest, greatest, api.OK},
		{least, greatest, greatest, least, api.OK},
		{least, least, greatest, 0, api.ErrOver},
		{greatest, greatest, greatest - 1, 0, api.ErrOver},
		{1 << 62, 1 << 62, 1 << 61, 0, api.ErrOver},
		{1 << 62, 1 << 62, 1 << 62, 1 << 62, api.OK},
		{1 << 62, -(1 << 62), 1 << 61, least, api.OK},
		{-(1<<62 + 1), 1 << 62, 1 << 61, 0, api.ErrOver},
		{1 << 62, 4, 2, 0, api.ErrOver},
		{1 << 62, 4, 1, 0, api.ErrOver},
		{least, 3, 2, 0, api.ErrOver},
		{least, 3, 3, least, api.OK},
		// The size is 2^64 - 1 and a rest: one more would go round to 0.
		{-31, 1190112520884487201, 2, 0, api.ErrOver},
		// Cut off it is the least number, rounded down one less.
		{-greatest, 1<<62 + 1, 1 << 62, 0, api.ErrOver},
		{6, 7, 0, 0, api.ErrArg},
		{6, 7, -1, 0, api.ErrArg},
		{6, 7, least, 0, api.ErrArg},
		{greatest, greatest, 0, 0, api.ErrArg},
	} {
		got, err := fixq.MulDiv(r.a, r.b, r.d)
		if got != r.want || err != r.err {
			t.Errorf("%s: %d, error %d, want %d, error %d", call("MulDiv", r.a, r.b, r.d), got, err, r.want, r.err)
		}
	}
}

func TestP8P15MulDivOfAll(t *testing.T) {
	eachTriple(func(a, b, d int64) {
		got, err := fixq.MulDiv(a, b, d)
		if d < 1 {
			fails(t, call("MulDiv", a, b, d), got, err, api.ErrArg)
			return
		}
		hold(t, call("MulDiv", a, b, d), got, err, floorOf(times(bigOf(a), bigOf(b)), bigOf(d)))
	})
}

// P1.9: half the sum, rounded down, also where the sum has no room.
func TestP9Mean(t *testing.T) {
	is(t, "Mean", fixq.Mean(2, 5), 3)
	is(t, "Mean", fixq.Mean(-3, 2), -1)
	is(t, "Mean", fixq.Mean(-2, -5), -4)
	is(t, "Mean", fixq.Mean(greatest, greatest), greatest)
	is(t, "Mean", fixq.Mean(greatest, greatest-1), greatest-1)
	is(t, "Mean", fixq.Mean(least, least), least)
	is(t, "Mean", fixq.Mean(least, greatest), -1)
	eachPair(func(a, b int64) {
		want := floorOf(plus(bigOf(a), bigOf(b)), bigOf(2))
		is(t, call("Mean", a, b), fixq.Mean(a, b), want.Int64())
	})
}

// P1.10: a part of the way, and the errors of all three steps in their order.
func TestP10Lerp(t *testing.T) {
	for _, r := range []struct {
		a, b, at, of, want int64
		err                api.Errno
	}{
		{10, 20, 1, 2, 15, api.OK},
		{10, 20, 0, 2, 10, api.OK},
		{10, 20, 2, 2, 20, api.OK},
		{10, 20, 3, 2, 25, api.OK},
		{10, 20, -1, 2, 5, api.OK},
		{20, 10, 1, 3, 16, api.OK},
		{0, 10, 1, 3, 3, api.OK},
		{0, greatest, greatest, greatest, greatest, api.OK},
		{5, 5, greatest, 1, 5, api.OK},
		{greatest, least, 1, 2, 0, api.ErrOver},
		{least, 0, 1, 2, 0, api.ErrOver},
		{0, greatest, 2, 1, 0, api.ErrOver},
		{greatest - 10, greatest, 2, 1, 0, api.ErrOver},
		{least + 10, least, 2, 1, 0, api.ErrOver},
		{10, 20, 1, 0, 0, api.ErrArg},
		{10, 20, 1, -1, 0, api.ErrArg},
		{10, 20, 1, least, 0, api.ErrArg},
		// The difference's error comes ahead of the divisor's.
		{greatest, least, 1, 0, 0, api.ErrOver},
	} {
		got, err := fixq.Lerp(r.a, r.b, r.at, r.of)
		if got != r.want || err != r.err {
			t.Errorf("%s: %d, error %d, want %d, error %d", call("Lerp", r.a, r.b, r.at, r.of), got, err, r.want, r.err)
		}
	}
}

func TestP10LerpOfAll(t *testing.T) {
	eachTriple(func(a, b, at int64) {
		for _, of := range []int64{least, -1, 0, 1, 2, 7, greatest} {
			got, err := fixq.Lerp(a, b, at, of)
			what := call("Lerp", a, b, at, of)
			far := minus(bigOf(b), bigOf(a))
			switch {
			case !far.IsInt64():
				fails(t, what, got, err, api.ErrOver)
			case of < 1:
				fails(t, what, got, err, api.ErrArg)
			default:
				part := floorOf(times(far, bigOf(at)), bigOf(of))
				if !part.IsInt64() {
					fails(t, what, got, err, api.ErrOver)
				} else {
					hold(t, what, got, err, plus(bigOf(a), part))
				}
			}
		}
	})
}

// P1.11: now, but not farther from old than most.
func TestP11Slew(t *testing.T) {
	for _, r := range []struct{ old, now, most, want int64 }{
		{5, 50, 7, 12},
		{5, -50, 7, -2},
		{5, 9, 7, 9},
		{5, 12, 7, 12},
		{5, -2, 7, -2},
		{5, 50, 0, 5},
		{5, 50, -1, 5},
		{5, 50, least, 5},
		{greatest - 3, greatest, 7, greatest},
		{least + 3, least, 7, least},
		{greatest - 3, 0, 7, greatest - 10},
		{least, greatest, greatest, -1},
		{greatest, least, greatest, 0},
		{0, least, greatest, -greatest},
	} {
		is(t, call("Slew", r.old, r.now, r.most), fixq.Slew(r.old, r.now, r.most), r.want)
	}
}

func TestP11SlewOfAll(t *testing.T) {
	eachTriple(func(old, now, most int64) {
		want := bigOf(now)
		if high := plus(bigOf(old), bigOf(most)); want.Cmp(high) > 0 {
			want = high
		}
		if low := minus(bigOf(old), bigOf(most)); want.Cmp(low) < 0 {
			want = low
		}
		if most < 0 {
			want = bigOf(old)
		}
		is(t, call("Slew", old, now, most), fixq.Slew(old, now, most), want.Int64())
	})
}

// P1.12: less all whole turns, half a turn below 0; 0 of a turn below 1.
func TestP12Wrap(t *testing.T) {
	for _, r := range []struct{ a, turn, want int64 }{
		{0, 360, 0},
		{179, 360, 179},
		{180, 360, -180},
		{-180, 360, -180},
		{-181, 360, 179},
		{270, 360, -90},
		{-270, 360, 90},
		{360, 360, 0},
		{3, 7, 3},
		{4, 7, -3},
		{-3, 7, -3},
		{-4, 7, 3},
		{1, 2, -1},
		{-1, 2, -1},
		{2, 3, -1},
		{5, 1, 0},
		{greatest, 1, 0},
		{5, 0, 0},
		{5, -1, 0},
		{5, -360, 0},
		{greatest, least, 0},
		{greatest, greatest, 0},
		{1 << 62, greatest, 1 - 1<<62},
		{1<<62 - 1, greatest, 1<<62 - 1},
		{least, greatest, -1},
		{1<<62 - 1, greatest - 1, 1 - 1<<62},
	} {
		is(t, call("Wrap", r.a, r.turn), fixq.Wrap(r.a, r.turn), r.want)
	}
}

// P1.12 and P1.16: a wrapped angle is where it shall be, and whole turns from what it was.
func TestP12P16WrapOfAll(t *testing.T) {
	eachPair(func(a, turn int64) {
		got := fixq.Wrap(a, turn)
		if turn < 1 {
			is(t, call("Wrap", a, turn), got, 0)
			return
		}
		if got < -(turn/2) || got > (turn-1)/2 {
			t.Fatalf("%s: %d is out of the turn", call("Wrap", a, turn), got)
		}
		far := minus(bigOf(a), bigOf(got))
		if far.Rem(far, bigOf(turn)).Sign() != 0 {
			t.Fatalf("%s: %d is not whole turns from it", call("Wrap", a, turn), got)
		}
	})
}

// P1.16: angles that differ by whole turns are wrapped alike.
func TestP16WrapOfTurns(t *testing.T) {
	for _, turn := range []int64{1, 2, 3, 7, 360, 1 << 20} {
		for a := int64(-25); a <= 25; a++ {
			for _, turns := range []int64{-1000, -1, 1, 2, 999} {
				is(t, call("Wrap", a, turn, turns), fixq.Wrap(a+turns*turn, turn), fixq.Wrap(a, turn))
			}
		}
	}
}

// P1.13: what is added can be taken away, and what is taken away added.
func TestP13AddedTakenAway(t *testing.T) {
	eachPair(func(a, b int64) {
		if sum, err := fixq.Add(a, b); err == api.OK {
			back, err := fixq.Sub(sum, b)
			hold(t, call("Sub of Add", a, b), back, err, bigOf(a))
		}
		if difference, err := fixq.Sub(a, b); err == api.OK {
			back, err := fixq.Add(difference, b)
			hold(t, call("Add of Sub", a, b), back, err, bigOf(a))
		}
	})
}

// P1.14: a quotient times its divisor, and what is left, are the dividend; what is left is less than the divisor, on the side that the rounding says.
func TestP14QuotientAndRest(t *testing.T) {
	eachPair(func(a, b int64) {
		down, err := fixq.Floor(a, b)
		if err != api.OK {
			return
		}
		left := minus(bigOf(a), times(bigOf(down), bigOf(b)))
		if left.CmpAbs(bigOf(b)) >= 0 || left.Sign() != 0 && left.Sign() != bigOf(b).Sign() {
			t.Fatalf("%s: %d leaves %s", call("Floor", a, b), down, left)
		}
		up, err := fixq.Ceil(a, b)
		want := bigOf(down)
		if left.Sign() != 0 {
			want = plus(want, bigOf(1))
		}
		hold(t, call("Ceil", a, b), up, err, want)
	})
}
