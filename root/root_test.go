package root_test

import (
	"fmt"
	"math"
	"math/big"
	"testing"

	"teetotum/api"
	"teetotum/root"
)

const (
	greatest uint64 = math.MaxUint64
	// half is the first number that has no room in 63 bits.
	half uint64 = 1 << 63
)

// edges are numbers beside which something changes: the powers of 2, primes, products of few primes, and the ends of the room.
func edges() []uint64 {
	l := []uint64{0, greatest, greatest - 1, 6700417, 4294967291, 2432902008176640000, 12157665459056928801, 7450580596923828125, 7540113804746346429, 12200160415121876738, 14472334024676221, 8944394323791464}
	for n := 0; n < 64; n += 3 {
		l = append(l, 1<<n-1, 1<<n, 1<<n+1)
	}
	return append(l, half-1, half, half+1)
}

// small are all numbers near 0.
func small() []uint64 {
	var l []uint64
	for n := uint64(0); n <= 40; n++ {
		l = append(l, n)
	}
	return l
}

// eachPair calls f with pairs of numbers near 0, and with pairs of the edges.
func eachPair(f func(a, b uint64)) {
	for _, l := range [][]uint64{small(), edges()} {
		for _, a := range l {
			for _, b := range l {
				f(a, b)
			}
		}
	}
}

func bigOf(n uint64) *big.Int { return new(big.Int).SetUint64(n) }

func times(a, b *big.Int) *big.Int { return new(big.Int).Mul(a, b) }

func power(a uint64, n int) *big.Int {
	return new(big.Int).Exp(bigOf(a), big.NewInt(int64(n)), nil)
}

// is fails if got is not want.
func is[T comparable](t *testing.T, what string, got, want T) {
	t.Helper()
	if got != want {
		t.Fatalf("%s: %v, want %v", what, got, want)
	}
}

// fails fails if the answer is not that error and 0.
func fails(t *testing.T, what string, got uint64, err, want api.Errno) {
	t.Helper()
	if err != want || got != 0 {
		t.Fatalf("%s: %d, error %d, want 0, error %d", what, got, err, want)
	}
}

// hold fails if got and err are not what is exact, or ErrOver and 0 where that has no room.
func hold(t *testing.T, what string, got uint64, err api.Errno, exact *big.Int) {
	t.Helper()
	switch {
	case !exact.IsUint64():
		fails(t, what, got, err, api.ErrOver)
	case err != api.OK || got != exact.Uint64():
		t.Fatalf("%s: %d, error %d, want %s", what, got, err, exact)
	}
}

func call(name string, args ...uint64) string {
	return name + fmt.Sprint(args)
}

// powersNear are the powers of that degree of many numbers, and the numbers beside them.
func powersNear(degree int, most uint64) []uint64 {
	l := append(small(), edges()...)
	add := func(r uint64) {
		if p := power(r, degree); p.IsUint64() {
			l = append(l, p.Uint64()-1, p.Uint64(), p.Uint64()+1)
		}
	}
	for r := uint64(0); r < 3000; r++ {
		add(r)
		add(most - r)
	}
	for bit := uint64(1); bit <= most; bit *= 2 {
		add(bit - 1)
		add(bit)
		add(bit + 1)
	}
	return l
}

// holdRoot fails if r is not the greatest number whose power is not above n.
func holdRoot(t *testing.T, what string, r, n uint64, degree int) {
	t.Helper()
	if power(r, degree).Cmp(bigOf(n)) > 0 {
		t.Fatalf("%s: %d, whose power is above it", what, r)
	}
	if power(r+1, degree).Cmp(bigOf(n)) <= 0 {
		t.Fatalf("%s: %d, but the power of one more is not above it", what, r)
	}
}

// P3.1: square roots, rounded down, up to the greatest one.
func TestP1Sqrt(t *testing.T) {
	for _, r := range []struct{ n, want uint64 }{
		{0, 0},
		{1, 1},
		{2, 1},
		{3, 1},
		{4, 2},
		{15, 3},
		{16, 4},
		{17, 4},
		{1<<62 - 1, 1<<31 - 1},
		{1 << 62, 1 << 31},
		{half, 3037000499},
		{18446744065119617024, 4294967294},
		{18446744065119617025, 4294967295},
		{greatest, 4294967295},
	} {
		is(t, call("Sqrt", r.n), root.Sqrt(r.n), r.want)
	}
}

// P3.1 and P3.11: a root's square is not above the number, that of one more is.
func TestP1P11SquareOfRoot(t *testing.T) {
	for _, n := range powersNear(2, 1<<32-1) {
		holdRoot(t, call("Sqrt", n), root.Sqrt(n), n, 2)
		is(t, call("Sqrt", n), root.Sqrt(n), new(big.Int).Sqrt(bigOf(n)).Uint64())
	}
}

// P3.2: the greatest common divisor; of 0 and a number that number, of 0 and 0 it is 0.
func TestP2Gcd(t *testing.T) {
	for _, r := range []struct{ a, b, want uint64 }{
		{12, 18, 6},
		{18, 12, 6},
		{7, 7, 7},
		{7, 1, 1},
		{8, 9, 1},
		{0, 0, 0},
		{0, 5, 5},
		{5, 0, 5},
		{0, greatest, greatest},
		{greatest, greatest, greatest},
		{greatest, greatest - 1, 1},
		{half, 1 << 40, 1 << 40},
		{greatest, 1<<32 + 1, 1<<32 + 1},
		{12200160415121876738, 7540113804746346429, 1},
	} {
		is(t, call("Gcd", r.a, r.b), root.Gcd(r.a, r.b), r.want)
	}
}

func TestP2GcdOfAll(t *testing.T) {
	eachPair(func(a, b uint64) {
		want := new(big.Int).GCD(nil, nil, bigOf(a), bigOf(b))
		is(t, call("Gcd", a, b), root.Gcd(a, b), want.Uint64())
	})
}

// greatestDivisor is what Gcd is by its words, of numbers near 0.
func greatestDivisor(a, b uint64) uint64 {
	for d := max(a, b); d > 0; d-- {
		if a%d == 0 && b%d == 0 {
			return d
		}
	}
	return 0
}

// leastMultiple is what Lcm is by its words, of numbers near 0.
func leastMultiple(a, b uint64) uint64 {
	if a == 0 || b == 0 {
		return 0
	}
	n := a
	for n%b != 0 {
		n += a
	}
	return n
}

func TestP2P3ByTheirWords(t *testing.T) {
	for _, a := range small() {
		for _, b := range small() {
			is(t, call("Gcd", a, b), root.Gcd(a, b), greatestDivisor(a, b))
			got, err := root.Lcm(a, b)
			is(t, call("Lcm", a, b), err, api.OK)
			is(t, call("Lcm", a, b), got, leastMultiple(a, b))
		}
	}
}

// P3.3: the least common multiple; 0 of 0 and anything; none without room, also where only the product has none.
func TestP3Lcm(t *testing.T) {
	for _, r := range []struct {
		a, b, want uint64
		err        api.Errno
	}{
		{12, 18, 36, api.OK},
		{18, 12, 36, api.OK},
		{7, 7, 7, api.OK},
		{1, 9, 9, api.OK},
		{0, 0, 0, api.OK},
		{0, greatest, 0, api.OK},
		{greatest, 0, 0, api.OK},
		{greatest, greatest, greatest, api.OK},
		{greatest, 1, greatest, api.OK},
		{greatest, 1<<32 + 1, greatest, api.OK},
		{half, 1 << 40, half, api.OK},
		{half, 2, half, api.OK},
		{1<<32 - 1, 1<<32 + 1, greatest, api.OK},
		{1 << 32, 1<<32 - 1, 18446744069414584320, api.OK},
		{1 << 32, 1<<32 + 1, 0, api.ErrOver},
		{half, 3, 0, api.ErrOver},
		{greatest, 2, 0, api.ErrOver},
		{greatest, greatest - 1, 0, api.ErrOver},
	} {
		got, err := root.Lcm(r.a, r.b)
		is(t, call("Lcm", r.a, r.b), err, r.err)
		is(t, call("Lcm", r.a, r.b), got, r.want)
	}
}

// P3.3 and P3.12: the product of both is that of their divisor and multiple, which has room or not.
func TestP3P12DivisorAndMultiple(t *testing.T) {
	eachPair(func(a, b uint64) {
		got, err := root.Lcm(a, b)
		if a == 0 || b == 0 {
			is(t, call("Lcm", a, b), err, api.OK)
			is(t, call("Lcm", a, b), got, 0)
			return
		}
		product := times(bigOf(a), bigOf(b))
		divisor := bigOf(root.Gcd(a, b))
		exact, left := new(big.Int).DivMod(product, divisor, new(big.Int))
		is(t, call("left of the product by Gcd", a, b), left.Sign(), 0)
		hold(t, call("Lcm", a, b), got, err, exact)
		if err == api.OK {
			is(t, call("Gcd times Lcm", a, b), times(bigOf(got), divisor).Cmp(product), 0)
		}
	})
}

// P3.4: powers, from the exponent 0 on; no exponent below 0, whatever the base; no power without room.
func TestP4Power(t *testing.T) {
	for _, r := range []struct {
		a    uint64
		n    int
		want uint64
		err  api.Errno
	}{
		{2, 10, 1024, api.OK},
		{3, 5, 243, api.OK},
		{10, 19, 10000000000000000000, api.OK},
		{10, 20, 0, api.ErrOver},
		{0, 0, 1, api.OK},
		{0, 1, 0, api.OK},
		{0, math.MaxInt, 0, api.OK},
		{1, 0, 1, api.OK},
		{1, math.MaxInt, 1, api.OK},
		{7, 0, 1, api.OK},
		{greatest, 0, 1, api.OK},
		{greatest, 1, greatest, api.OK},
		{greatest, 2, 0, api.ErrOver},
		{2, 63, half, api.OK},
		{2, 64, 0, api.ErrOver},
		{2, 65, 0, api.ErrOver},
		{2, math.MaxInt, 0, api.ErrOver},
		{2, 1 << 62, 0, api.ErrOver},
		{3, 40, 12157665459056928801, api.OK},
		{3, 41, 0, api.ErrOver},
		{1<<32 - 1, 2, 18446744065119617025, api.OK},
		{1 << 32, 2, 0, api.ErrOver},
		{1 << 31, 2, 1 << 62, api.OK},
		{1 << 16, 3, 1 << 48, api.OK},
		{1 << 16, 4, 0, api.ErrOver},
		{2642245, 3, 18446724184312856125, api.OK},
		{2642246, 3, 0, api.ErrOver},
		{0, -1, 0, api.ErrArg},
		{1, -1, 0, api.ErrArg},
		{2, -1, 0, api.ErrArg},
		{greatest, math.MinInt, 0, api.ErrArg},
	} {
		what := fmt.Sprintf("Power(%d, %d)", r.a, r.n)
		got, err := root.Power(r.a, r.n)
		is(t, what, err, r.err)
		is(t, what, got, r.want)
	}
}

func TestP4PowerOfAll(t *testing.T) {
	for _, a := range append(small(), edges()...) {
		for n := 0; n <= 130; n++ {
			got, err := root.Power(a, n)
			hold(t, fmt.Sprintf("Power(%d, %d)", a, n), got, err, power(a, n))
		}
	}
}

// P3.5: how many bits; 0 has none.
func TestP5Log(t *testing.T) {
	is(t, "Log(0)", root.Log(0), 0)
	is(t, "Log(1)", root.Log(1), 1)
	is(t, "Log(7)", root.Log(7), 3)
	is(t, "Log(8)", root.Log(8), 4)
	is(t, "Log(greatest)", root.Log(greatest), 64)
	for n := 1; n < 64; n++ {
		is(t, call("Log", 1<<n-1), root.Log(1<<n-1), n)
		is(t, call("Log", 1<<n), root.Log(1<<n), n+1)
	}
	for _, n := range append(small(), edges()...) {
		is(t, call("Log", n), root.Log(n), bigOf(n).BitLen())
	}
}

// P3.6: how long three numbers are; a size beyond 2^31 counts as 2^31, that of the least number too.
func TestP6Norm(t *testing.T) {
	const most = 1 << 31
	for _, r := range []struct {
		v    api.Vec
		want uint64
	}{
		{api.Vec{}, 0},
		{api.Vec{1, 0, 0}, 1},
		{api.Vec{1, 1, 1}, 1},
		{api.Vec{3, 4, 0}, 5},
		{api.Vec{0, -3, 4}, 5},
		{api.Vec{-4, 0, -3}, 5},
		{api.Vec{2, -3, 6}, 7},
		{api.Vec{2, -3, 7}, 7},
		{api.Vec{30, -30, 30}, 51},
		{api.Vec{1 << 20, -1 << 20, 1 << 20}, 1816186},
		{api.Vec{most - 1, 0, 0}, most - 1},
		{api.Vec{0, most, 0}, most},
		{api.Vec{0, 0, most + 1}, most},
		{api.Vec{-most - 1, 0, 0}, most},
		{api.Vec{0, math.MaxInt64, 0}, most},
		{api.Vec{0, 0, math.MinInt64}, most},
		{api.Vec{most - 1, most - 1, most - 1}, 3719550785},
		{api.Vec{most, most, most}, 3719550786},
		{api.Vec{math.MinInt64, math.MinInt64, math.MinInt64}, 3719550786},
		{api.Vec{math.MaxInt64, math.MinInt64, -math.MaxInt64}, 3719550786},
		{api.Vec{math.MinInt64, 3, -4}, most},
	} {
		is(t, fmt.Sprintf("Norm(%v)", r.v), root.Norm(r.v), r.want)
	}
}

func TestP6NormOfAll(t *testing.T) {
	numbers := []int64{0, 1, 2, 3, 7, 30, 1 << 20, 1 << 27, 1<<31 - 1, 1 << 31, 1<<31 + 1, 1 << 40, math.MaxInt64}
	for _, x := range numbers[1:] {
		numbers = append(numbers, -x)
	}
	numbers = append(numbers, math.MinInt64)
	most := new(big.Int).Lsh(big.NewInt(1), 31)
	for _, x := range numbers {
		for _, y := range numbers {
			for _, z := range numbers {
				sum := new(big.Int)
				for _, n := range []int64{x, y, z} {
					size := big.NewInt(n)
					if size.CmpAbs(most) > 0 {
						size = most
					}
					sum.Add(sum, times(size, size))
				}
				v := api.Vec{x, y, z}
				is(t, fmt.Sprintf("Norm(%v)", v), root.Norm(v), sum.Sqrt(sum).Uint64())
			}
		}
	}
}

// P3.7: cube roots, rounded down, up to the greatest one.
func TestP7Cbrt(t *testing.T) {
	for _, r := range []struct{ n, want uint64 }{
		{0, 0},
		{1, 1},
		{7, 1},
		{8, 2},
		{9, 2},
		{26, 2},
		{27, 3},
		{999, 9},
		{1000, 10},
		{1 << 60, 1 << 20},
		{1<<63 - 1, 1<<21 - 1},
		{1 << 63, 1 << 21},
		{18446724184312856124, 2642244},
		{18446724184312856125, 2642245},
		{greatest, 2642245},
	} {
		is(t, call("Cbrt", r.n), root.Cbrt(r.n), r.want)
	}
	for _, n := range powersNear(3, 2642245) {
		holdRoot(t, call("Cbrt", n), root.Cbrt(n), n, 3)
	}
}

// P3.8: the last fraction within both limits, each limit itself among them; 0, 0 where a divisor or limit is 0.
func TestP8Ratio(t *testing.T) {
	const most = 1 << 62
	for _, r := range []struct{ a, b, most, over, under uint64 }{
		{6, 4, 10, 3, 2},
		{0, 5, 10, 0, 1},
		{0, greatest, 1, 0, 1},
		{5, 1, 1, 5, 1},
		{5, 5, 1, 1, 1},
		{3, 7, 7, 3, 7},
		{3, 7, 6, 1, 2},
		{3, 7, 2, 1, 2},
		{3, 7, 1, 0, 1},
		{314159265358979, 100000000000000, 1, 3, 1},
		{314159265358979, 100000000000000, 6, 3, 1},
		{314159265358979, 100000000000000, 7, 22, 7},
		{314159265358979, 100000000000000, 105, 22, 7},
		{314159265358979, 100000000000000, 106, 333, 106},
		{314159265358979, 100000000000000, 112, 333, 106},
		{314159265358979, 100000000000000, 113, 355, 113},
		{314159265358979, 100000000000000, 33101, 355, 113},
		{314159265358979, 100000000000000, 33102, 103993, 33102},
		{1, 1, greatest, 1, 1},
		{greatest, greatest, greatest, 1, 1},
		{1, greatest, greatest, 1, greatest},
		{1, greatest, greatest - 1, 0, 1},
		{greatest - 1, greatest, 100, 1, 1},
		{most, 1, 1, most, 1},
		{most, 3, 3, most, 3},
		{most + 1, 1, greatest, 1, 0},
		{most + 1, 2, greatest, most / 2, 1},
		{greatest, 1, 1, 1, 0},
		{greatest, 2, 1, 1, 0},
		{greatest, 4, 1, most, 1},
		{greatest, 4, 4, most, 1},
		{greatest, 5, 5, greatest / 5, 1},
		{1, 0, 10, 0, 0},
		{0, 0, 10, 0, 0},
		{1, 3, 0, 0, 0},
		{greatest, 1, 0, 0, 0},
		{greatest, 0, greatest, 0, 0},
		{0, 0, 0, 0, 0},
	} {
		over, under := root.Ratio(r.a, r.b, r.most)
		is(t, call("over of Ratio", r.a, r.b, r.most), over, r.over)
		is(t, call("under of Ratio", r.a, r.b, r.most), under, r.under)
	}
}

// fractions are those that a / b goes on with, from 1 / 0 on, each as numerator and denominator.
func fractions(a, b uint64) [][2]*big.Int {
	ahead := [2]*big.Int{big.NewInt(0), big.NewInt(1)}
	l := [][2]*big.Int{{big.NewInt(1), big.NewInt(0)}}
	x, y := bigOf(a), bigOf(b)
	for y.Sign() > 0 {
		last := l[len(l)-1]
		n, left := new(big.Int).DivMod(x, y, new(big.Int))
		var next [2]*big.Int
		for i := range next {
			next[i] = new(big.Int).Add(times(n, last[i]), ahead[i])
		}
		l = append(l, next)
		ahead, x, y = last, y, left
	}
	return l
}

// limits are all numbers beside the fractions' denominators, and the ends.
func limits(l [][2]*big.Int) []uint64 {
	mosts := []uint64{1, greatest}
	for _, f := range l {
		under := f[1].Uint64()
		mosts = append(mosts, under, under+1)
		if under > 0 {
			mosts = append(mosts, under-1)
		}
	}
	return mosts
}

func TestP8RatioOfAll(t *testing.T) {
	mostOver := new(big.Int).Lsh(big.NewInt(1), 62)
	eachPair(func(a, b uint64) {
		l := fractions(a, b)
		for _, most := range limits(l) {
			var want [2]uint64
			for _, f := range l {
				if b > 0 && most > 0 && f[1].Cmp(bigOf(most)) <= 0 && f[0].Cmp(mostOver) <= 0 {
					want = [2]uint64{f[0].Uint64(), f[1].Uint64()}
				}
			}
			over, under := root.Ratio(a, b, most)
			is(t, call("Ratio", a, b, most), [2]uint64{over, under}, want)
		}
	})
}

// P3.13: with room enough the fraction itself, without a common divisor.
func TestP13RatioIsTheFraction(t *testing.T) {
	eachPair(func(a, b uint64) {
		if a > 1<<62 || b == 0 {
			return
		}
		over, under := root.Ratio(a, b, b)
		is(t, call("Ratio times the divisor", a, b), times(bigOf(over), bigOf(b)).Cmp(times(bigOf(under), bigOf(a))), 0)
		is(t, call("Gcd of Ratio", a, b), root.Gcd(over, under), 1)
	})
}

// P3.9: inverses; no modulus below 2 or above 2^31, which is looked at first; none where there is a common divisor.
func TestP9Inverse(t *testing.T) {
	const most = 1 << 31
	for _, r := range []struct {
		a, m, want uint64
		err        api.Errno
	}{
		{3, 7, 5, api.OK},
		{5, 7, 3, api.OK},
		{1, 2, 1, api.OK},
		{3, 2, 1, api.OK},
		{1, most, 1, api.OK},
		{most - 1, most, most - 1, api.OK},
		{most + 1, most, 1, api.OK},
		{3, most, 715827883, api.OK},
		{2, most - 1, 1 << 30, api.OK},
		{greatest, most, most - 1, api.OK},
		{greatest, 2, 1, api.OK},
		{10, 17, 12, api.OK},
		{27, 17, 12, api.OK},
		{0, 7, 0, api.ErrNone},
		{7, 7, 0, api.ErrNone},
		{14, 7, 0, api.ErrNone},
		{0, 2, 0, api.ErrNone},
		{6, 9, 0, api.ErrNone},
		{2, most, 0, api.ErrNone},
		{half, most, 0, api.ErrNone},
		{1, 0, 0, api.ErrArg},
		{0, 0, 0, api.ErrArg},
		{1, 1, 0, api.ErrArg},
		{0, 1, 0, api.ErrArg},
		{3, most + 1, 0, api.ErrArg},
		{2, most + 2, 0, api.ErrArg},
		{1, greatest, 0, api.ErrArg},
		{greatest, greatest, 0, api.ErrArg},
	} {
		got, err := root.Inverse(r.a, r.m)
		is(t, call("Inverse", r.a, r.m), err, r.err)
		is(t, call("Inverse", r.a, r.m), got, r.want)
	}
}

func TestP9InverseOfAll(t *testing.T) {
	eachPair(func(a, m uint64) {
		got, err := root.Inverse(a, m)
		if m < 2 || m > 1<<31 {
			fails(t, call("Inverse", a, m), got, err, api.ErrArg)
			return
		}
		want := new(big.Int).ModInverse(bigOf(a), bigOf(m))
		if want == nil {
			fails(t, call("Inverse", a, m), got, err, api.ErrNone)
			return
		}
		is(t, call("Inverse", a, m), err, api.OK)
		is(t, call("Inverse", a, m), got, want.Uint64())
	})
}

// P3.10: primes up to 2^32, and nothing beyond.
func TestP10Prime(t *testing.T) {
	for _, n := range []uint64{2, 3, 5, 7, 11, 13, 65521, 65537, 16777213, 2147483647, 4294967279, 4294967291} {
		is(t, call("Prime", n), root.Prime(n), true)
	}
	for _, n := range []uint64{
		0, 1, 4, 9, 15, 25, 49, 561, 65521 * 65521, 65519 * 65521, 65535, 1 << 31, 4294967289, 4294967293, 1<<32 - 1, 1 << 32,
		1<<32 + 1, 4294967311, 1<<61 - 1, 18446744073709551557, half, greatest,
	} {
		is(t, call("Prime", n), root.Prime(n), false)
	}
}

func TestP10PrimeOfAll(t *testing.T) {
	check := func(n uint64) {
		is(t, call("Prime", n), root.Prime(n), n <= 1<<32 && bigOf(n).ProbablyPrime(20))
	}
	for n := uint64(0); n < 5000; n++ {
		check(n)
	}
	for d := uint64(0); d < 200; d++ {
		check(1<<32 - d)
		check(1<<32 + d)
		check(65521*65521 + d)
	}
	for _, n := range edges() {
		check(n)
	}
}
