package wide_test

import (
	"fmt"
	"math"
	"math/big"
	"strings"
	"testing"

	"teetotum/api"
	"teetotum/wide"
)

const (
	greatest int64 = math.MaxInt64
	least    int64 = math.MinInt64
)

var (
	greatestWide = api.Wide{Hi: greatest, Lo: math.MaxUint64}
	leastWide    = api.Wide{Hi: least}
)

func power(base, n int64) *big.Int {
	return new(big.Int).Exp(big.NewInt(base), big.NewInt(n), nil)
}

func plus(a, b *big.Int) *big.Int  { return new(big.Int).Add(a, b) }
func minus(a, b *big.Int) *big.Int { return new(big.Int).Sub(a, b) }
func times(a, b *big.Int) *big.Int { return new(big.Int).Mul(a, b) }

// bigOf is the number that a is.
func bigOf(a api.Wide) *big.Int {
	high := times(big.NewInt(a.Hi), power(2, 64))
	return plus(high, new(big.Int).SetUint64(a.Lo))
}

// wideOf is x modulo 2^128.
func wideOf(x *big.Int) api.Wide {
	turn := power(2, 128)
	x = new(big.Int).Mod(x, turn)
	if x.Cmp(power(2, 127)) >= 0 {
		x.Sub(x, turn)
	}
	high, low := new(big.Int).DivMod(x, power(2, 64), new(big.Int))
	return api.Wide{Hi: high.Int64(), Lo: low.Uint64()}
}

// narrows are numbers of 64 bits beside which something changes.
func narrows() []int64 {
	l := []int64{0, 1, 2, 3, 5, 7, 10, 1<<31 - 1, 1 << 31, 1 << 32, 3037000499, 3037000500, 1e18, 1<<62 - 1, 1 << 62, 1<<62 + 1, greatest - 1, greatest}
	for _, x := range l[1:] {
		l = append(l, -x)
	}
	return append(l, least)
}

// divisors are the narrow numbers above 0.
func divisors() []int64 {
	var l []int64
	for _, d := range narrows() {
		if d > 0 {
			l = append(l, d)
		}
	}
	return l
}

// wides are numbers of 128 bits beside which something changes, some all over the room, and their opposites.
func wides() []api.Wide {
	var l []api.Wide
	add := func(x *big.Int) {
		for d := int64(-2); d <= 2; d++ {
			a := wideOf(plus(x, big.NewInt(d)))
			l = append(l, a, wideOf(new(big.Int).Neg(bigOf(a))))
		}
	}
	for _, n := range []int64{0, 31, 32, 62, 63, 64, 65, 96, 125, 126, 127} {
		add(power(2, n))
	}
	for _, n := range []int64{1, 18, 19, 20, 37, 38} {
		add(power(10, n))
	}
	add(times(big.NewInt(greatest), big.NewInt(greatest)))
	x := big.NewInt(1)
	for range 20 {
		x = plus(times(x, new(big.Int).SetUint64(6364136223846793005)), big.NewInt(1442695040888963407))
		l = append(l, wideOf(x))
	}
	return append(l, api.Wide{})
}

func eachPair(f func(a, b api.Wide)) {
	l := wides()
	for _, a := range l {
		for _, b := range l {
			f(a, b)
		}
	}
}

func eachNarrowPair(f func(a, b int64)) {
	l := narrows()
	for _, a := range l {
		for _, b := range l {
			f(a, b)
		}
	}
}

// is fails if got is not want; what is wanted is a number, an error or a text.
func is(t *testing.T, what string, got, want any) {
	t.Helper()
	if got != want {
		t.Fatalf("%s: %v, want %v", what, got, want)
	}
}

func call(name string, args ...any) string {
	var texts []string
	for _, x := range args {
		if a, ok := x.(api.Wide); ok {
			x = bigOf(a)
		}
		texts = append(texts, fmt.Sprint(x))
	}
	return name + "(" + strings.Join(texts, ", ") + ")"
}

// P2.1: a number of 64 bits, as it is.
func TestP1Of(t *testing.T) {
	is(t, "Of(0)", wide.Of(0), api.Wide{})
	is(t, "Of(1)", wide.Of(1), api.Wide{Lo: 1})
	is(t, "Of(-1)", wide.Of(-1), api.Wide{Hi: -1, Lo: math.MaxUint64})
	is(t, "Of(greatest)", wide.Of(greatest), api.Wide{Lo: 1<<63 - 1})
	is(t, "Of(least)", wide.Of(least), api.Wide{Hi: -1, Lo: 1 << 63})
	for _, a := range narrows() {
		is(t, call("Of", a), wide.Of(a), wideOf(big.NewInt(a)))
	}
}

// P2.2: the product, of either sign, exact at the ends.
func TestP2Mul(t *testing.T) {
	is(t, "Mul(-1, 5)", wide.Mul(-1, 5), api.Wide{Hi: -1, Lo: 1<<64 - 5})
	is(t, "Mul(6, 7)", wide.Mul(6, 7), api.Wide{Lo: 42})
	is(t, "Mul(-6, -7)", wide.Mul(-6, -7), api.Wide{Lo: 42})
	is(t, "Mul(0, least)", wide.Mul(0, least), api.Wide{})
	is(t, "Mul(least, least)", wide.Mul(least, least), api.Wide{Hi: 1 << 62})
	is(t, "Mul(least, 1)", wide.Mul(least, 1), api.Wide{Hi: -1, Lo: 1 << 63})
	is(t, "Mul(least, -1)", wide.Mul(least, -1), api.Wide{Lo: 1 << 63})
	is(t, "Mul(1 << 32, -(1 << 32))", wide.Mul(1<<32, -(1<<32)), api.Wide{Hi: -1})
	eachNarrowPair(func(a, b int64) {
		is(t, call("Mul", a, b), wide.Mul(a, b), wideOf(times(big.NewInt(a), big.NewInt(b))))
	})
}

// P2.3: sums and opposites, modulo 2^128.
func TestP3AddNeg(t *testing.T) {
	is(t, "carry", wide.Add(api.Wide{Lo: math.MaxUint64}, wide.Of(1)), api.Wide{Hi: 1})
	is(t, "greatest and 1", wide.Add(greatestWide, wide.Of(1)), leastWide)
	is(t, "least and -1", wide.Add(leastWide, wide.Of(-1)), greatestWide)
	is(t, "least twice", wide.Add(leastWide, leastWide), api.Wide{})
	is(t, "opposite of 0", wide.Neg(api.Wide{}), api.Wide{})
	is(t, "opposite of 1", wide.Neg(wide.Of(1)), wide.Of(-1))
	is(t, "opposite of 2^64", wide.Neg(api.Wide{Hi: 1}), api.Wide{Hi: -1})
	is(t, "opposite of the least", wide.Neg(leastWide), leastWide)
	eachPair(func(a, b api.Wide) {
		is(t, call("Add", a, b), wide.Add(a, b), wideOf(plus(bigOf(a), bigOf(b))))
	})
	for _, a := range wides() {
		is(t, call("Neg", a), wide.Neg(a), wideOf(new(big.Int).Neg(bigOf(a))))
		is(t, call("Add to Neg", a), wide.Add(a, wide.Neg(a)), api.Wide{})
	}
}

// P2.4: which side of 0, and of another number.
func TestP4SignCmp(t *testing.T) {
	is(t, "Sign of 0", wide.Sign(api.Wide{}), 0)
	is(t, "Sign of 2^63", wide.Sign(api.Wide{Lo: 1 << 63}), 1)
	is(t, "Sign of 2^64", wide.Sign(api.Wide{Hi: 1}), 1)
	is(t, "Sign of -2^64", wide.Sign(api.Wide{Hi: -1}), -1)
	is(t, "Sign of the least", wide.Sign(leastWide), -1)
	is(t, "Cmp of low halves", wide.Cmp(api.Wide{Lo: 1 << 63}, api.Wide{Lo: 1}), 1)
	is(t, "Cmp of low halves below 0", wide.Cmp(api.Wide{Hi: -1, Lo: 1}, api.Wide{Hi: -1, Lo: 1 << 63}), -1)
	is(t, "Cmp of high halves", wide.Cmp(api.Wide{Hi: -1, Lo: 5}, api.Wide{Hi: 0, Lo: 1}), -1)
	is(t, "Cmp of the ends", wide.Cmp(greatestWide, leastWide), 1)
	for _, a := range wides() {
		is(t, call("Sign", a), wide.Sign(a), bigOf(a).Sign())
	}
	eachPair(func(a, b api.Wide) {
		is(t, call("Cmp", a, b), wide.Cmp(a, b), bigOf(a).Cmp(bigOf(b)))
	})
}

// P2.5: in 64 bits, or that there is no room.
func TestP5Narrow(t *testing.T) {
	for _, r := range []struct {
		a    api.Wide
		want int64
		err  api.Errno
	}{
		{api.Wide{}, 0, api.OK},
		{api.Wide{Hi: -1, Lo: math.MaxUint64}, -1, api.OK},
		{api.Wide{Lo: 1<<63 - 1}, greatest, api.OK},
		{api.Wide{Lo: 1 << 63}, 0, api.ErrOver},
		{api.Wide{Hi: -1, Lo: 1 << 63}, least, api.OK},
		{api.Wide{Hi: -1, Lo: 1<<63 - 1}, 0, api.ErrOver},
		{api.Wide{Hi: -1}, 0, api.ErrOver},
		{api.Wide{Hi: 1, Lo: 5}, 0, api.ErrOver},
		{greatestWide, 0, api.ErrOver},
		{leastWide, 0, api.ErrOver},
	} {
		got, err := wide.Narrow(r.a)
		if got != r.want || err != r.err {
			t.Errorf("%s: %d, error %d, want %d, error %d", call("Narrow", r.a), got, err, r.want, r.err)
		}
	}
	for _, a := range wides() {
		want, room := int64(0), api.ErrOver
		if x := bigOf(a); x.IsInt64() {
			want, room = x.Int64(), api.OK
		}
		got, err := wide.Narrow(a)
		is(t, call("Narrow", a), got, want)
		is(t, call("Narrow", a), err, room)
	}
}

// P2.6: the quotient rounded down and what is left; of -2^127 too; no divisor below 1.
func TestP6Div(t *testing.T) {
	for _, r := range []struct {
		a    api.Wide
		d    int64
		want api.Wide
		left int64
		err  api.Errno
	}{
		{wide.Of(7), 2, wide.Of(3), 1, api.OK},
		{wide.Of(-7), 2, wide.Of(-4), 1, api.OK},
		{wide.Of(-6), 2, wide.Of(-3), 0, api.OK},
		{wide.Of(-1), greatest, wide.Of(-1), greatest - 1, api.OK},
		{wide.Of(1), greatest, wide.Of(0), 1, api.OK},
		{api.Wide{}, 3, api.Wide{}, 0, api.OK},
		{api.Wide{Hi: 1}, 2, api.Wide{Lo: 1 << 63}, 0, api.OK},
		{leastWide, 1, leastWide, 0, api.OK},
		{leastWide, 2, api.Wide{Hi: -1 << 62}, 0, api.OK},
		{leastWide, 1 << 62, api.Wide{Hi: -2}, 0, api.OK},
		{leastWide, 3, api.Wide{Hi: -3074457345618258603, Lo: 0x5555555555555555}, 1, api.OK},
		{greatestWide, 1, greatestWide, 0, api.OK},
		{wide.Of(7), 0, api.Wide{}, 0, api.ErrArg},
		{wide.Of(7), -1, api.Wide{}, 0, api.ErrArg},
		{leastWide, least, api.Wide{}, 0, api.ErrArg},
		{api.Wide{}, 0, api.Wide{}, 0, api.ErrArg},
	} {
		got, left, err := wide.Div(r.a, r.d)
		if got != r.want || left != r.left || err != r.err {
			t.Errorf("%s: %s, left %d, error %d, want %s, left %d, error %d", call("Div", r.a, r.d), bigOf(got), left, err, bigOf(r.want), r.left, r.err)
		}
	}
}

func TestP6DivOfAll(t *testing.T) {
	for _, a := range wides() {
		for _, d := range divisors() {
			// Of a divisor above 0 big's Div is rounded down.
			q, left := new(big.Int).DivMod(bigOf(a), big.NewInt(d), new(big.Int))
			got, rest, err := wide.Div(a, d)
			is(t, call("Div", a, d), err, api.OK)
			is(t, call("Div", a, d), got, wideOf(q))
			is(t, call("left of Div", a, d), rest, left.Int64())
		}
	}
}

// P2.7: by powers of 2, rounded down, from the first n to the last one, and beyond both.
func TestP7Shift(t *testing.T) {
	for _, r := range []struct {
		a    api.Wide
		n    int
		want api.Wide
		err  api.Errno
	}{
		{wide.Of(5), 0, wide.Of(5), api.OK},
		{wide.Of(5), 1, wide.Of(2), api.OK},
		{wide.Of(-5), 1, wide.Of(-3), api.OK},
		{wide.Of(-1), 127, wide.Of(-1), api.OK},
		{api.Wide{Hi: 1}, 1, api.Wide{Lo: 1 << 63}, api.OK},
		{api.Wide{Hi: 3}, 63, wide.Of(6), api.OK},
		{api.Wide{Hi: 3}, 64, wide.Of(3), api.OK},
		{api.Wide{Hi: -3}, 65, wide.Of(-2), api.OK},
		{leastWide, 0, leastWide, api.OK},
		{leastWide, 126, wide.Of(-2), api.OK},
		{leastWide, 127, wide.Of(-1), api.OK},
		{greatestWide, 126, wide.Of(1), api.OK},
		{greatestWide, 127, api.Wide{}, api.OK},
		{greatestWide, 128, api.Wide{}, api.ErrArg},
		{greatestWide, -1, api.Wide{}, api.ErrArg},
		{leastWide, math.MaxInt, api.Wide{}, api.ErrArg},
		{leastWide, math.MinInt, api.Wide{}, api.ErrArg},
	} {
		got, err := wide.Shift(r.a, r.n)
		if got != r.want || err != r.err {
			t.Errorf("%s: %s, error %d, want %s, error %d", call("Shift", r.a, r.n), bigOf(got), err, bigOf(r.want), r.err)
		}
	}
	for _, a := range wides() {
		for n := 0; n <= 127; n++ {
			got, err := wide.Shift(a, n)
			is(t, call("Shift", a, n), err, api.OK)
			is(t, call("Shift", a, n), got, wideOf(new(big.Int).Rsh(bigOf(a), uint(n))))
		}
	}
}

// P2.8: what is left of a, modulo 2^128.
func TestP8Sub(t *testing.T) {
	is(t, "Sub(2, 3)", wide.Sub(wide.Of(2), wide.Of(3)), wide.Of(-1))
	is(t, "borrow", wide.Sub(api.Wide{Hi: 1}, wide.Of(1)), api.Wide{Lo: math.MaxUint64})
	is(t, "least less 1", wide.Sub(leastWide, wide.Of(1)), greatestWide)
	is(t, "0 less the least", wide.Sub(api.Wide{}, leastWide), leastWide)
	is(t, "-1 less the least", wide.Sub(wide.Of(-1), leastWide), greatestWide)
	eachPair(func(a, b api.Wide) {
		is(t, call("Sub", a, b), wide.Sub(a, b), wideOf(minus(bigOf(a), bigOf(b))))
		is(t, call("Sub", a, b), wide.Sub(a, b), wide.Add(a, wide.Neg(b)))
	})
}

// P2.9: how far from 0; the least number is as Neg tells.
func TestP9Abs(t *testing.T) {
	is(t, "Abs(0)", wide.Abs(api.Wide{}), api.Wide{})
	is(t, "Abs(-7)", wide.Abs(wide.Of(-7)), wide.Of(7))
	is(t, "Abs(-2^64)", wide.Abs(api.Wide{Hi: -1}), api.Wide{Hi: 1})
	is(t, "Abs(least)", wide.Abs(leastWide), leastWide)
	is(t, "Abs(least and 1)", wide.Abs(api.Wide{Hi: least, Lo: 1}), greatestWide)
	for _, a := range wides() {
		is(t, call("Abs", a), wide.Abs(a), wideOf(new(big.Int).Abs(bigOf(a))))
	}
}

// P2.10: quotients rounded to the nearest, of two the greater one; no divisor below 1.
func TestP10Nearest(t *testing.T) {
	for _, r := range []struct {
		a    api.Wide
		d    int64
		want api.Wide
		err  api.Errno
	}{
		{wide.Of(5), 2, wide.Of(3), api.OK},
		{wide.Of(-5), 2, wide.Of(-2), api.OK},
		{wide.Of(4), 3, wide.Of(1), api.OK},
		{wide.Of(5), 3, wide.Of(2), api.OK},
		{wide.Of(-4), 3, wide.Of(-1), api.OK},
		{wide.Of(-5), 3, wide.Of(-2), api.OK},
		{wide.Of(6), 3, wide.Of(2), api.OK},
		{wide.Of(1 << 61), 1 << 62, wide.Of(1), api.OK},
		{wide.Of(-(1 << 61)), 1 << 62, wide.Of(0), api.OK},
		{wide.Of(-(1<<61 + 1)), 1 << 62, wide.Of(-1), api.OK},
		{wide.Of(greatest/2 + 1), greatest, wide.Of(1), api.OK},
		{wide.Of(greatest / 2), greatest, wide.Of(0), api.OK},
		{greatestWide, 1, greatestWide, api.OK},
		{greatestWide, 2, api.Wide{Hi: 1 << 62}, api.OK},
		{leastWide, 1, leastWide, api.OK},
		{wide.Of(5), 0, api.Wide{}, api.ErrArg},
		{wide.Of(5), -2, api.Wide{}, api.ErrArg},
		{leastWide, least, api.Wide{}, api.ErrArg},
	} {
		got, err := wide.Nearest(r.a, r.d)
		if got != r.want || err != r.err {
			t.Errorf("%s: %s, error %d, want %s, error %d", call("Nearest", r.a, r.d), bigOf(got), err, bigOf(r.want), r.err)
		}
	}
	for _, a := range wides() {
		for _, d := range divisors() {
			x, by := bigOf(a), big.NewInt(d)
			want := new(big.Int).Div(plus(plus(x, x), by), plus(by, by))
			got, err := wide.Nearest(a, d)
			is(t, call("Nearest", a, d), err, api.OK)
			is(t, call("Nearest", a, d), got, wideOf(want))
		}
	}
}

// rooted are numbers from 0 on: the squares of many roots, the numbers beside them, and the edges.
func rooted() []api.Wide {
	var l []api.Wide
	for _, x := range wides() {
		if bigOf(x).Sign() >= 0 {
			l = append(l, x)
		}
	}
	for _, r := range narrows() {
		square := times(big.NewInt(r), big.NewInt(r))
		for d := int64(-1); d <= 1; d++ {
			if x := plus(square, big.NewInt(d)); x.Sign() >= 0 {
				l = append(l, wideOf(x))
			}
		}
	}
	return l
}

// P2.11: the root, rounded down, and not above the greatest number of 64 bits; none below 0.
func TestP11Sqrt(t *testing.T) {
	for _, r := range []struct {
		a    api.Wide
		want int64
		err  api.Errno
	}{
		{wide.Of(0), 0, api.OK},
		{wide.Of(1), 1, api.OK},
		{wide.Of(3), 1, api.OK},
		{wide.Of(4), 2, api.OK},
		{wide.Of(8), 2, api.OK},
		{wide.Of(9), 3, api.OK},
		{wide.Of(greatest), 3037000499, api.OK},
		{api.Wide{Hi: 1}, 1 << 32, api.OK},
		{api.Wide{Lo: math.MaxUint64}, 1<<32 - 1, api.OK},
		{wide.Mul(greatest, greatest), greatest, api.OK},
		{wide.Sub(wide.Mul(greatest, greatest), wide.Of(1)), greatest - 1, api.OK},
		{api.Wide{Hi: 1 << 62}, greatest, api.OK},
		{greatestWide, greatest, api.OK},
		{wide.Of(-1), 0, api.ErrArg},
		{wide.Of(-4), 0, api.ErrArg},
		{leastWide, 0, api.ErrArg},
	} {
		got, err := wide.Sqrt(r.a)
		if got != r.want || err != r.err {
			t.Errorf("%s: %d, error %d, want %d, error %d", call("Sqrt", r.a), got, err, r.want, r.err)
		}
	}
	for _, a := range rooted() {
		want := new(big.Int).Sqrt(bigOf(a))
		if !want.IsInt64() {
			want = big.NewInt(greatest)
		}
		got, err := wide.Sqrt(a)
		is(t, call("Sqrt", a), err, api.OK)
		is(t, call("Sqrt", a), got, want.Int64())
	}
}

// P2.12: digits, with a - ahead of those below 0; zeros in the middle are told.
func TestP12Text(t *testing.T) {
	for _, r := range []struct {
		a    api.Wide
		want string
	}{
		{wide.Of(0), "0"},
		{wide.Of(7), "7"},
		{wide.Of(-7), "-7"},
		{wide.Of(1000), "1000"},
		{wide.Of(greatest), "9223372036854775807"},
		{wide.Of(least), "-9223372036854775808"},
		{api.Wide{Lo: 9999999999999999999}, "9999999999999999999"},
		{api.Wide{Lo: 10000000000000000000}, "10000000000000000000"},
		{wide.Mul(-1e18, 10), "-10000000000000000000"},
		{api.Wide{Hi: 1}, "18446744073709551616"},
		{wide.Mul(1e18, 1e18), "1" + strings.Repeat("0", 36)},
		{wide.Add(wide.Mul(1e18, 1e18), wide.Of(7)), "1" + strings.Repeat("0", 35) + "7"},
		{greatestWide, "170141183460469231731687303715884105727"},
		{leastWide, "-170141183460469231731687303715884105728"},
	} {
		is(t, call("Text", r.a), wide.Text(r.a), r.want)
	}
	for _, a := range wides() {
		is(t, call("Text", a), wide.Text(a), bigOf(a).String())
	}
}

// refused fails if the text is read.
func refused(t *testing.T, s string) {
	t.Helper()
	if got, err := wide.Parse(s); err != api.ErrForm || got != (api.Wide{}) {
		t.Fatalf("Parse(%.60q): %s, error %d, want 0, error %d", s, bigOf(got), err, api.ErrForm)
	}
}

// P2.13: what Text writes with 38 digits at most, and nothing else.
func TestP13Parse(t *testing.T) {
	nines := strings.Repeat("9", 38)
	for _, s := range []string{
		"0", "1", "-1", "9", "10", "-10", "9223372036854775808", "-9223372036854775809", "18446744073709551615", "18446744073709551616",
		"9999999999999999999", "10000000000000000000", "-10000000000000000001", "1" + strings.Repeat("0", 37), nines, "-" + nines,
	} {
		want, _ := new(big.Int).SetString(s, 10)
		got, err := wide.Parse(s)
		is(t, "Parse "+s, err, api.OK)
		is(t, "Parse "+s, got, wideOf(want))
	}
	for _, s := range []string{
		"", "-", "+", "+1", "-0", "+0", "00", "01", "-01", "--1", "-+1", "1-", "1+", " 1", "1 ", "1\n", "1\x00", "1_0", "0x1", "1e3", "1.0", "a", "\xff", "١", "１",
		strings.Repeat("0", 38), "0" + nines[1:], "-0" + nines[1:], "0" + nines, "1" + strings.Repeat("0", 38), "-1" + strings.Repeat("0", 38),
		wide.Text(greatestWide), wide.Text(leastWide), "340282366920938463463374607431768211456", strings.Repeat("9", 1000000),
		"1+" + nines[:18], "1-" + nines[:18], "1_" + nines[:18], "-" + nines[:18] + "-" + nines[:19], nines[:19] + "+" + nines[:18],
	} {
		refused(t, s)
	}
}

// eachText calls f with all texts of at most that many of the letters.
func eachText(letters string, most int, f func(s string)) {
	f("")
	if most == 0 {
		return
	}
	for i := range letters {
		eachText(letters, most-1, func(s string) { f(letters[i:i+1] + s) })
	}
}

// P2.13 and P2.16: short texts are read if and only if they are written so.
func TestP13P16ShortTexts(t *testing.T) {
	eachText("-+0179 _x", 5, func(s string) {
		want, ok := new(big.Int).SetString(s, 10)
		if !ok || want.String() != s {
			refused(t, s)
			return
		}
		got, err := wide.Parse(s)
		is(t, "Parse "+s, err, api.OK)
		is(t, "Parse "+s, got, wideOf(want))
		is(t, "Text of Parse "+s, wide.Text(got), s)
	})
}

// P2.16: what is written is read, if it has 38 digits at most.
func TestP16WrittenIsRead(t *testing.T) {
	for _, a := range wides() {
		s := wide.Text(a)
		if bigOf(a).CmpAbs(power(10, 38)) >= 0 {
			refused(t, s)
			continue
		}
		got, err := wide.Parse(s)
		is(t, call("Parse of Text", a), err, api.OK)
		is(t, call("Parse of Text", a), got, a)
	}
}

// P2.17: a root's square is not above the number; that of the next one is, if it has room.
func TestP17SquareOfRoot(t *testing.T) {
	for _, a := range rooted() {
		root, err := wide.Sqrt(a)
		is(t, call("Sqrt", a), err, api.OK)
		if wide.Cmp(wide.Mul(root, root), a) > 0 {
			t.Fatalf("%s: the square of %d is above it", call("Sqrt", a), root)
		}
		if root < greatest && wide.Cmp(wide.Mul(root+1, root+1), a) <= 0 {
			t.Fatalf("%s: the square of %d is not above it", call("Sqrt", a), root+1)
		}
	}
}

// P2.14: a quotient times its divisor, and what is left, which is less than the divisor, are the dividend.
func TestP14QuotientAndRest(t *testing.T) {
	eachNarrowPair(func(a, b int64) {
		for _, d := range divisors() {
			dividend := wide.Mul(a, b)
			q, left, err := wide.Div(dividend, d)
			is(t, call("Div", dividend, d), err, api.OK)
			if left < 0 || left >= d {
				t.Fatalf("%s: %d is left", call("Div", dividend, d), left)
			}
			back := plus(times(bigOf(q), big.NewInt(d)), big.NewInt(left))
			is(t, call("back from Div", dividend, d), wideOf(back), dividend)
			if n, err := wide.Narrow(q); err == api.OK {
				is(t, call("back from Div", dividend, d), wide.Add(wide.Mul(n, d), wide.Of(left)), dividend)
			}
		}
	})
}

// P2.15: products are the same in any order, and of a sum the sum of both.
func TestP15Products(t *testing.T) {
	eachNarrowPair(func(a, b int64) {
		is(t, call("Mul", a, b), wide.Mul(a, b), wide.Mul(b, a))
		for _, c := range narrows() {
			sum, err := wide.Narrow(wide.Add(wide.Of(b), wide.Of(c)))
			if err == api.OK {
				is(t, call("Mul of a sum", a, b, c), wide.Mul(a, sum), wide.Add(wide.Mul(a, b), wide.Mul(a, c)))
			}
		}
	})
}
