package vec_test

import (
	"fmt"
	"math"
	"math/big"
	"testing"

	"teetotum/api"
	"teetotum/vec"
)

const (
	greatest int64 = math.MaxInt64
	least    int64 = math.MinInt64
)

// asked is a call, written out only where it is told.
type asked struct {
	name string
	args []any
}

func call(name string, args ...any) asked { return asked{name, args} }

func (a asked) String() string { return a.name + " of " + fmt.Sprint(a.args...) }

// is fails if got is not want.
func is[T comparable](t *testing.T, what asked, got, want T) {
	t.Helper()
	if got != want {
		t.Fatalf("%s: %v, want %v", what, got, want)
	}
}

// small are all of three numbers near 0.
func small() []api.Vec {
	var l []api.Vec
	for x := int64(-2); x <= 2; x++ {
		for y := int64(-2); y <= 2; y++ {
			for z := int64(-2); z <= 2; z++ {
				l = append(l, api.Vec{x, y, z})
			}
		}
	}
	return l
}

// numbers are edges: 0, the ends of the program's own limits, the roots of the room, and its ends.
func numbers() []int64 {
	l := []int64{0, 1, 6, api.MaxEntry, api.MaxRate, 1<<31 - 1, 1 << 32, 1<<32 + 3, 3037000500, 1 << 62, greatest - 1, greatest}
	for _, x := range l[1:] {
		l = append(l, -x)
	}
	return append(l, least)
}

// edges are three edge numbers each: every one of them in every place, beside two others.
func edges() []api.Vec {
	var l []api.Vec
	n := numbers()
	for i, x := range n {
		y, z := n[(5*i+2)%len(n)], n[(7*i+3)%len(n)]
		l = append(l, api.Vec{x, y, z}, api.Vec{z, x, y}, api.Vec{y, z, x})
	}
	return append(l, api.Vec{least, least, least}, api.Vec{greatest, greatest, greatest}, api.Vec{0, 0, least}, api.Vec{0, greatest, 0})
}

// some are every so many of l.
func some(l []api.Vec, every int) []api.Vec {
	var few []api.Vec
	for i := 0; i < len(l); i += every {
		few = append(few, l[i])
	}
	return few
}

// eachPair calls f with all pairs near 0, and with all pairs of edges.
func eachPair(f func(a, b api.Vec)) {
	for _, l := range [][]api.Vec{small(), edges()} {
		for _, a := range l {
			for _, b := range l {
				f(a, b)
			}
		}
	}
}

// eachTriple calls f with triples near 0, and with triples of edges.
func eachTriple(f func(a, b, c api.Vec)) {
	for _, l := range [][]api.Vec{some(small(), 3), some(edges(), 2)} {
		for _, a := range l {
			for _, b := range l {
				for _, c := range l {
					f(a, b, c)
				}
			}
		}
	}
}

// around is x modulo 2^64, as a number with a sign.
func around(x *big.Int) int64 {
	turn := new(big.Int).Lsh(big.NewInt(1), 64)
	return int64(new(big.Int).Mod(x, turn).Uint64())
}

func times(a, b int64) *big.Int {
	return new(big.Int).Mul(big.NewInt(a), big.NewInt(b))
}

// minus is a times b, less c times d, modulo 2^64.
func minus(a, b, c, d int64) int64 {
	return around(new(big.Int).Sub(times(a, b), times(c, d)))
}

// placed is what f answers of each place.
func placed(f func(i int) *big.Int) api.Vec {
	return api.Vec{around(f(0)), around(f(1)), around(f(2))}
}

// P7.1: the sum of all three products.
func TestP1Dot(t *testing.T) {
	for _, r := range []struct {
		a, b api.Vec
		want int64
	}{
		{api.Vec{1, 2, 3}, api.Vec{4, 5, 6}, 32},
		{api.Vec{1, -2, 3}, api.Vec{4, 5, -6}, -24},
		{api.Vec{7, 0, 0}, api.Vec{2, 3, 5}, 14},
		{api.Vec{0, 7, 0}, api.Vec{2, 3, 5}, 21},
		{api.Vec{0, 0, 7}, api.Vec{2, 3, 5}, 35},
		{api.Vec{}, api.Vec{greatest, least, 1}, 0},
		{api.Vec{greatest, 1, 0}, api.Vec{1, 1, 1}, least},
		{api.Vec{greatest, greatest, greatest}, api.Vec{1, 1, 1}, greatest - 2},
		{api.Vec{least, 0, 0}, api.Vec{-1, 0, 0}, least},
		{api.Vec{least, least, 0}, api.Vec{1, 1, 0}, 0},
		{api.Vec{1 << 32, 0, 5}, api.Vec{1 << 32, 0, 1}, 5},
		{api.Vec{1 << 32, 1, 0}, api.Vec{1 << 31, -1, 0}, greatest},
		{api.Vec{api.MaxEntry, api.MaxEntry, api.MaxEntry}, api.Vec{api.MaxRate, api.MaxRate, api.MaxRate}, 94371840},
	} {
		is(t, call("Dot", r.a, r.b), vec.Dot(r.a, r.b), r.want)
	}
}

func TestP1DotOfAll(t *testing.T) {
	eachPair(func(a, b api.Vec) {
		sum := new(big.Int)
		for i := range a {
			sum.Add(sum, times(a[i], b[i]))
		}
		is(t, call("Dot", a, b), vec.Dot(a, b), around(sum))
	})
}

// P7.2, and the chapter's example: each place is of the two others.
func TestP2Cross(t *testing.T) {
	for _, r := range []struct{ a, b, want api.Vec }{
		{api.Vec{1, 0, 0}, api.Vec{0, 1, 0}, api.Vec{0, 0, 1}},
		{api.Vec{0, 1, 0}, api.Vec{0, 0, 1}, api.Vec{1, 0, 0}},
		{api.Vec{0, 0, 1}, api.Vec{1, 0, 0}, api.Vec{0, 1, 0}},
		{api.Vec{0, 1, 0}, api.Vec{1, 0, 0}, api.Vec{0, 0, -1}},
		{api.Vec{2, 3, 5}, api.Vec{7, 11, 13}, api.Vec{-16, 9, 1}},
		{api.Vec{2, 3, 5}, api.Vec{-4, -6, -10}, api.Vec{}},
		{api.Vec{}, api.Vec{greatest, least, 1}, api.Vec{}},
		{api.Vec{0, 1 << 32, 1}, api.Vec{0, 1, 1 << 32}, api.Vec{-1, 0, 0}},
		{api.Vec{greatest, 2, 0}, api.Vec{1, 2, 0}, api.Vec{0, 0, -4}},
		{api.Vec{least, 0, 0}, api.Vec{0, 1, -1}, api.Vec{0, least, least}},
		{api.Vec{0, greatest, least}, api.Vec{0, 1, 1}, api.Vec{-1, 0, 0}},
	} {
		is(t, call("Cross", r.a, r.b), vec.Cross(r.a, r.b), r.want)
	}
}

func TestP2CrossOfAll(t *testing.T) {
	eachPair(func(a, b api.Vec) {
		want := api.Vec{minus(a[1], b[2], a[2], b[1]), minus(a[2], b[0], a[0], b[2]), minus(a[0], b[1], a[1], b[0])}
		is(t, call("Cross", a, b), vec.Cross(a, b), want)
	})
}

// P7.3: the determinant of three rows, with its sign.
func TestP3Det(t *testing.T) {
	for _, r := range []struct {
		a, b, c api.Vec
		want    int64
	}{
		{api.Vec{1, 0, 0}, api.Vec{0, 1, 0}, api.Vec{0, 0, 1}, 1},
		{api.Vec{0, 1, 0}, api.Vec{1, 0, 0}, api.Vec{0, 0, 1}, -1},
		{api.Vec{2, 0, 0}, api.Vec{0, 3, 0}, api.Vec{0, 0, -5}, -30},
		{api.Vec{1, 2, 3}, api.Vec{4, 5, 6}, api.Vec{7, 8, 10}, -3},
		{api.Vec{1, 2, 3}, api.Vec{4, 5, 6}, api.Vec{7, 8, 9}, 0},
		{api.Vec{}, api.Vec{4, 5, 6}, api.Vec{7, 8, 9}, 0},
		{api.Vec{30, 30, -30}, api.Vec{30, -30, 30}, api.Vec{-30, 30, 30}, -108000},
		{api.Vec{1 << 21, 0, 0}, api.Vec{0, 1 << 21, 0}, api.Vec{0, 0, 1 << 21}, least},
		{api.Vec{1 << 32, 0, 0}, api.Vec{0, 1 << 32, 0}, api.Vec{0, 0, 1}, 0},
		{api.Vec{greatest, 0, 0}, api.Vec{0, greatest, 0}, api.Vec{0, 0, greatest}, greatest},
		{api.Vec{least, 0, 0}, api.Vec{0, -1, 0}, api.Vec{0, 0, 1}, least},
	} {
		is(t, call("Det", r.a, r.b, r.c), vec.Det(r.a, r.b, r.c), r.want)
	}
}

// determinant is that of three rows, by the sum over all orders of the columns.
func determinant(a, b, c api.Vec) int64 {
	sum := new(big.Int)
	for _, o := range [][3]int{{0, 1, 2}, {1, 2, 0}, {2, 0, 1}} {
		product := times(a[o[0]], b[o[1]])
		sum.Add(sum, product.Mul(product, big.NewInt(c[o[2]])))
		product = times(a[o[0]], b[o[2]])
		sum.Sub(sum, product.Mul(product, big.NewInt(c[o[1]])))
	}
	return around(sum)
}

func TestP3DetOfAll(t *testing.T) {
	eachTriple(func(a, b, c api.Vec) {
		got := vec.Det(a, b, c)
		is(t, call("Det", a, b, c), got, determinant(a, b, c))
		is(t, call("Det", a, b, c), got, vec.Dot(a, vec.Cross(b, c)))
	})
}

// P7.4: place by place, and round where there is no room.
func TestP4AddSubScale(t *testing.T) {
	for _, r := range []struct{ a, b, sum, difference api.Vec }{
		{api.Vec{1, 2, 3}, api.Vec{10, 20, 40}, api.Vec{11, 22, 43}, api.Vec{-9, -18, -37}},
		{api.Vec{}, api.Vec{1, -2, 3}, api.Vec{1, -2, 3}, api.Vec{-1, 2, -3}},
		{api.Vec{5, -6, 7}, api.Vec{}, api.Vec{5, -6, 7}, api.Vec{5, -6, 7}},
		{api.Vec{greatest, least, 0}, api.Vec{1, -1, least}, api.Vec{least, greatest, least}, api.Vec{greatest - 1, least + 1, least}},
		{api.Vec{greatest, least, -1}, api.Vec{-1, 1, least}, api.Vec{greatest - 1, least + 1, greatest}, api.Vec{least, greatest, greatest}},
		{api.Vec{least, greatest, least}, api.Vec{least, greatest, greatest}, api.Vec{0, -2, -1}, api.Vec{0, 0, 1}},
	} {
		is(t, call("Add", r.a, r.b), vec.Add(r.a, r.b), r.sum)
		is(t, call("Sub", r.a, r.b), vec.Sub(r.a, r.b), r.difference)
	}
	for _, r := range []struct {
		a    api.Vec
		k    int64
		want api.Vec
	}{
		{api.Vec{1, -2, 3}, 4, api.Vec{4, -8, 12}},
		{api.Vec{1, -2, 3}, -1, api.Vec{-1, 2, -3}},
		{api.Vec{1, -2, 3}, 0, api.Vec{}},
		{api.Vec{1, -2, 3}, 1, api.Vec{1, -2, 3}},
		{api.Vec{}, least, api.Vec{}},
		{api.Vec{least, greatest, 1}, -1, api.Vec{least, -greatest, -1}},
		{api.Vec{least, greatest, 1 << 62}, 2, api.Vec{0, -2, least}},
		{api.Vec{1, 2, 3}, least, api.Vec{least, 0, least}},
		{api.Vec{greatest, least, 3}, greatest, api.Vec{1, least, greatest - 2}},
	} {
		is(t, call("Scale", r.a, r.k), vec.Scale(r.a, r.k), r.want)
	}
}

func TestP4AddSubScaleOfAll(t *testing.T) {
	eachPair(func(a, b api.Vec) {
		sum := placed(func(i int) *big.Int { return new(big.Int).Add(big.NewInt(a[i]), big.NewInt(b[i])) })
		is(t, call("Add", a, b), vec.Add(a, b), sum)
		difference := placed(func(i int) *big.Int { return new(big.Int).Sub(big.NewInt(a[i]), big.NewInt(b[i])) })
		is(t, call("Sub", a, b), vec.Sub(a, b), difference)
		for _, k := range b {
			multiple := placed(func(i int) *big.Int { return times(a[i], k) })
			is(t, call("Scale", a, k), vec.Scale(a, k), multiple)
		}
	})
}

// P7.5: the greatest size, in any place and of either sign; that of the least number is the greatest number.
func TestP5Max(t *testing.T) {
	for _, r := range []struct {
		a    api.Vec
		want int64
	}{
		{api.Vec{}, 0},
		{api.Vec{3, 2, 1}, 3},
		{api.Vec{1, 3, 2}, 3},
		{api.Vec{1, 2, 3}, 3},
		{api.Vec{-3, 2, 1}, 3},
		{api.Vec{1, -3, 2}, 3},
		{api.Vec{1, 2, -3}, 3},
		{api.Vec{-1, -2, -3}, 3},
		{api.Vec{-3, -3, -3}, 3},
		{api.Vec{0, 0, -1}, 1},
		{api.Vec{greatest, 0, 1}, greatest},
		{api.Vec{0, -greatest, 1}, greatest},
		{api.Vec{0, 1, least}, greatest},
		{api.Vec{least, least, least}, greatest},
		{api.Vec{least + 2, 0, greatest - 2}, greatest - 1},
	} {
		is(t, call("Max", r.a), vec.Max(r.a), r.want)
	}
}

// size is how far x is from 0, at most the greatest number.
func size(x int64) int64 {
	far := new(big.Int).Abs(big.NewInt(x))
	if !far.IsInt64() {
		return greatest
	}
	return far.Int64()
}

func TestP5MaxOfAll(t *testing.T) {
	for _, a := range append(small(), edges()...) {
		want := max(size(a[0]), size(a[1]), size(a[2]))
		is(t, call("Max", a), vec.Max(a), want)
	}
}

// P7.6: one 1; none at a place that there is not.
func TestP6One(t *testing.T) {
	is(t, call("One", 0), vec.One(0), api.Vec{1, 0, 0})
	is(t, call("One", 1), vec.One(1), api.Vec{0, 1, 0})
	is(t, call("One", 2), vec.One(2), api.Vec{0, 0, 1})
	for _, i := range []int{-1, -2, -3, 3, 4, 1 << 32, 1<<32 + 1, math.MaxInt, math.MinInt} {
		is(t, call("One", i), vec.One(i), api.Vec{})
	}
}

// P7.7: of three in that order, b and c being crossed first.
func TestP7Twice(t *testing.T) {
	for _, r := range []struct{ a, b, c, want api.Vec }{
		{api.Vec{1, 0, 0}, api.Vec{1, 0, 0}, api.Vec{0, 1, 0}, api.Vec{0, -1, 0}},
		{api.Vec{0, 1, 0}, api.Vec{1, 0, 0}, api.Vec{0, 1, 0}, api.Vec{1, 0, 0}},
		{api.Vec{0, 0, 1}, api.Vec{1, 0, 0}, api.Vec{0, 1, 0}, api.Vec{}},
		{api.Vec{1, 2, 3}, api.Vec{4, 5, 6}, api.Vec{7, 8, 10}, api.Vec{-12, 9, -2}},
		{api.Vec{4, 5, 6}, api.Vec{1, 2, 3}, api.Vec{7, 8, 10}, api.Vec{-96, 0, 64}},
		{api.Vec{}, api.Vec{4, 5, 6}, api.Vec{7, 8, 10}, api.Vec{}},
		{api.Vec{0, 1 << 32, 0}, api.Vec{1, 0, 0}, api.Vec{0, 1 << 31, 0}, api.Vec{least, 0, 0}},
		{api.Vec{0, 1 << 32, 0}, api.Vec{1, 0, 0}, api.Vec{0, 1 << 32, 0}, api.Vec{}},
		{api.Vec{0, greatest, 0}, api.Vec{greatest, 0, 0}, api.Vec{0, greatest, 0}, api.Vec{greatest, 0, 0}},
	} {
		is(t, call("Twice", r.a, r.b, r.c), vec.Twice(r.a, r.b, r.c), r.want)
	}
	eachTriple(func(a, b, c api.Vec) {
		is(t, call("Twice", a, b, c), vec.Twice(a, b, c), vec.Cross(a, vec.Cross(b, c)))
	})
}

// P7.8: the first place at which they are unlike tells, and no other.
func TestP8Less(t *testing.T) {
	for _, r := range []struct {
		a, b api.Vec
		want bool
	}{
		{api.Vec{}, api.Vec{}, false},
		{api.Vec{1, 2, 3}, api.Vec{1, 2, 3}, false},
		{api.Vec{1, 2, 3}, api.Vec{2, 2, 3}, true},
		{api.Vec{2, 2, 3}, api.Vec{1, 2, 3}, false},
		{api.Vec{1, 9, 9}, api.Vec{2, 0, 0}, true},
		{api.Vec{2, 0, 0}, api.Vec{1, 9, 9}, false},
		{api.Vec{1, 2, 9}, api.Vec{1, 3, 0}, true},
		{api.Vec{1, 3, 0}, api.Vec{1, 2, 9}, false},
		{api.Vec{1, 2, 3}, api.Vec{1, 2, 4}, true},
		{api.Vec{1, 2, 4}, api.Vec{1, 2, 3}, false},
		{api.Vec{-1, 0, 0}, api.Vec{}, true},
		{api.Vec{0, -1, 0}, api.Vec{}, true},
		{api.Vec{0, 0, -1}, api.Vec{}, true},
		{api.Vec{0, 0, 1}, api.Vec{}, false},
		{api.Vec{least, greatest, greatest}, api.Vec{greatest, least, least}, true},
		{api.Vec{greatest, least, least}, api.Vec{least, greatest, greatest}, false},
		{api.Vec{0, 0, least}, api.Vec{0, 0, greatest}, true},
		{api.Vec{0, 0, greatest}, api.Vec{0, 0, least}, false},
	} {
		is(t, call("Less", r.a, r.b), vec.Less(r.a, r.b), r.want)
	}
}

func TestP8LessOfAll(t *testing.T) {
	eachPair(func(a, b api.Vec) {
		want := a[0] < b[0] || a[0] == b[0] && a[1] < b[1] || a[0] == b[0] && a[1] == b[1] && a[2] < b[2]
		is(t, call("Less", a, b), vec.Less(a, b), want)
		is(t, call("Less either way", a, b), vec.Less(a, b) || vec.Less(b, a), a != b)
	})
}

// P7.9: what divides all three sizes; that of the least number is the greatest number, of zeros alone it is 0.
func TestP9Common(t *testing.T) {
	for _, r := range []struct {
		a    api.Vec
		want uint64
	}{
		{api.Vec{}, 0},
		{api.Vec{0, 0, 7}, 7},
		{api.Vec{0, -7, 0}, 7},
		{api.Vec{7, 0, 0}, 7},
		{api.Vec{12, 18, 30}, 6},
		{api.Vec{12, -18, 8}, 2},
		{api.Vec{-12, 18, 0}, 6},
		{api.Vec{6, 10, 15}, 1},
		{api.Vec{1, 0, 0}, 1},
		{api.Vec{4, 4, -4}, 4},
		{api.Vec{greatest, 0, 0}, 1<<63 - 1},
		{api.Vec{least, 0, 0}, 1<<63 - 1},
		{api.Vec{least, greatest, -greatest}, 1<<63 - 1},
		{api.Vec{0, least, 14}, 7},
		{api.Vec{least, 2, 4}, 1},
		{api.Vec{1 << 62, -1 << 62, 1 << 61}, 1 << 61},
	} {
		is(t, call("Common", r.a), vec.Common(r.a), r.want)
	}
}

func TestP9CommonOfAll(t *testing.T) {
	for _, a := range append(small(), edges()...) {
		want := new(big.Int)
		for _, x := range a {
			want.GCD(nil, nil, want, big.NewInt(size(x)))
		}
		is(t, call("Common", a), vec.Common(a), want.Uint64())
	}
}

// P7.10: without what is common, the first that is not 0 above 0; zeros as they are, and the least number's own ways.
func TestP10Prim(t *testing.T) {
	for _, r := range []struct{ a, want api.Vec }{
		{api.Vec{}, api.Vec{}},
		{api.Vec{1, 0, 0}, api.Vec{1, 0, 0}},
		{api.Vec{-1, 0, 0}, api.Vec{1, 0, 0}},
		{api.Vec{0, -5, 0}, api.Vec{0, 1, 0}},
		{api.Vec{0, 0, -5}, api.Vec{0, 0, 1}},
		{api.Vec{12, -18, 30}, api.Vec{2, -3, 5}},
		{api.Vec{-12, 18, 30}, api.Vec{2, -3, -5}},
		{api.Vec{0, -12, 18}, api.Vec{0, 2, -3}},
		{api.Vec{0, 12, -18}, api.Vec{0, 2, -3}},
		{api.Vec{6, -10, 15}, api.Vec{6, -10, 15}},
		{api.Vec{-6, -10, 15}, api.Vec{6, 10, -15}},
		{api.Vec{greatest, 0, -greatest}, api.Vec{1, 0, -1}},
		{api.Vec{-greatest, greatest, 1}, api.Vec{greatest, -greatest, -1}},
		{api.Vec{least, 0, 0}, api.Vec{1, 0, 0}},
		{api.Vec{greatest, least, 0}, api.Vec{1, -1, 0}},
		{api.Vec{least, greatest, least}, api.Vec{1, -1, 1}},
		{api.Vec{14, least, 0}, api.Vec{2, -1317624576693539401, 0}},
		{api.Vec{least, 14, 0}, api.Vec{1317624576693539401, -2, 0}},
		{api.Vec{1, least, 0}, api.Vec{1, least, 0}},
		{api.Vec{-1, least, greatest}, api.Vec{1, least, -greatest}},
		{api.Vec{least, 1, 2}, api.Vec{least, -1, -2}},
	} {
		is(t, call("Prim", r.a), vec.Prim(r.a), r.want)
	}
}

// prim is what the promise says of a, by division with what is left thrown away.
func prim(a api.Vec) api.Vec {
	common := new(big.Int)
	for _, x := range a {
		common.GCD(nil, nil, common, big.NewInt(size(x)))
	}
	if common.Sign() == 0 {
		return a
	}
	first := a[0]
	for _, x := range a {
		if first == 0 {
			first = x
		}
	}
	return placed(func(i int) *big.Int {
		q := new(big.Int).Quo(big.NewInt(a[i]), common)
		if first < 0 {
			q.Neg(q)
		}
		return q
	})
}

func TestP10PrimOfAll(t *testing.T) {
	for _, a := range append(small(), edges()...) {
		is(t, call("Prim", a), vec.Prim(a), prim(a))
	}
	eachPair(func(a, b api.Vec) {
		c := vec.Cross(a, b)
		is(t, call("Prim", c), vec.Prim(c), prim(c))
	})
}

// P7.11: Dot of a cross product with either is 0, also where it goes round.
func TestP11CrossHasNothingInCommon(t *testing.T) {
	eachPair(func(a, b api.Vec) {
		c := vec.Cross(a, b)
		is(t, call("Dot with the first", a, b), vec.Dot(a, c), 0)
		is(t, call("Dot with the second", a, b), vec.Dot(b, c), 0)
	})
}

// P7.12: Det of the rows in turn is the same, of two changed for each other the opposite.
func TestP12DetInTurn(t *testing.T) {
	eachTriple(func(a, b, c api.Vec) {
		d := vec.Det(a, b, c)
		is(t, call("Det in turn", a, b, c), vec.Det(b, c, a), d)
		is(t, call("Det changed", a, b, c), vec.Det(b, a, c), -d)
	})
}

// P7.13: Dot of two cross products is made of four Dots.
func TestP13DotOfCrosses(t *testing.T) {
	l := append(some(small(), 9), some(edges(), 5)...)
	for _, a := range l {
		for _, b := range l {
			for _, c := range l {
				for _, d := range l {
					want := minus(vec.Dot(a, c), vec.Dot(b, d), vec.Dot(a, d), vec.Dot(b, c))
					is(t, call("Dot of Crosses", a, b, c, d), vec.Dot(vec.Cross(a, b), vec.Cross(c, d)), want)
				}
			}
		}
	}
}

// P7.14: Twice is made of multiples of b and c.
func TestP14TwiceOfMultiples(t *testing.T) {
	eachTriple(func(a, b, c api.Vec) {
		want := vec.Sub(vec.Scale(b, vec.Dot(a, c)), vec.Scale(c, vec.Dot(a, b)))
		is(t, call("Twice", a, b, c), vec.Twice(a, b, c), want)
	})
}

// P7.15: all multiples of one direction, either way, have its Prim, whose Common is 1.
func TestP15OnePrim(t *testing.T) {
	directions := append(small(), api.Vec{6, 10, 15}, api.Vec{api.MaxEntry, -api.MaxEntry, 7}, api.Vec{1 << 20, 3, -(1 << 20)})
	for _, a := range directions {
		if a == (api.Vec{}) {
			continue
		}
		p := vec.Prim(a)
		is(t, call("Common of Prim", a), vec.Common(p), 1)
		is(t, call("Less of Prim and 0", a), vec.Less(p, api.Vec{}), false)
		is(t, call("Cross of it and Prim", a), vec.Cross(a, p), api.Vec{})
		for _, k := range []int64{1, 2, 3, 7, 30, 360, 1 << 20, 1<<31 - 1, 1 << 40, greatest / vec.Max(a)} {
			is(t, call("Prim of multiples", a, k), vec.Prim(vec.Scale(a, k)), p)
			is(t, call("Prim of multiples", a, -k), vec.Prim(vec.Scale(a, -k)), p)
		}
	}
}

// R3: what is handed in is as it was.
func TestHandedInIsAsItWas(t *testing.T) {
	a, b := api.Vec{-4, 6, least}, api.Vec{greatest, -8, 3}
	wasA, wasB := a, b
	vec.Add(a, b)
	vec.Sub(a, b)
	vec.Scale(a, 5)
	vec.Cross(a, b)
	vec.Twice(a, b, a)
	vec.Prim(a)
	vec.Prim(b)
	is(t, call("what was handed in"), [2]api.Vec{a, b}, [2]api.Vec{wasA, wasB})
}
