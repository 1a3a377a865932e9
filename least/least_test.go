package least_test

import (
	"fmt"
	"math"
	"math/big"
	"slices"
	"testing"

	"teetotum/api"
	"teetotum/geom"
	"teetotum/least"
)

const (
	greatest int64 = math.MaxInt64
	lowest   int64 = math.MinInt64
)

type axes = [6]api.Vec

// asked is a call, written out only where it is told.
type asked struct {
	name string
	args []any
}

func call(name string, args ...any) asked { return asked{name, args} }

func (a asked) String() string { return a.name + " of " + fmt.Sprint(a.args...) }

// is fails if got is not want.
func is[T comparable](t *testing.T, what asked, got, want T) {
	t.Helper()
	if got != want {
		t.Fatalf("%s: %v, want %v", what, got, want)
	}
}

// plain are axes that are easily reckoned with; the first two, and the last two, have one direction.
var plain = axes{{1, 0, 0}, {2, 0, 0}, {0, 1, 0}, {0, 0, 1}, {1, 1, 1}, {-3, -3, -3}}

// mixed are four axes whose factors are all unlike, and two that are 0.
var mixed = axes{{2, 0, 0}, {0, 3, 0}, {0, 0, 5}, {1, 1, 0}}

// corners are axes with entries as great as they may be.
var corners = axes{{30, 0, 0}, {0, 30, 0}, {0, 0, 30}, {30, 30, 30}, {30, -30, 29}, {-30, 10, 20}}

// far are axes with entries at the ends of the room.
var far = axes{{greatest, lowest, 1}, {1, greatest, 2}, {3, 1, lowest}, {lowest, lowest, 5}, {7, 11, 13}, {greatest, 1, 1}}

// root7 squared is -7, modulo 2^64: with it a Gram may have the Det -1, by which the least number has no room.
const root7 = 1852311383259529397

// over are axes of which 0 to 3 have the Det -1, and 0 alone is not in the plane of 1, 2 and 5.
var over = axes{{1, 0, 0}, {0, 1, 0}, {0, 0, 1}, {1, 2, root7}, {2, 0, 0}, {0, 5, 0}}

// both are axes that have, modulo 2^64, without 0 the Det 0, without 5 the Det -1, and neither without another one.
var both = axes{{1, 0, 0}, {0, 1, 0}, {0, 0, 1}, {1, -3, 3}, {0, -1, 1661798425827085584}, {3, 1, 2226156490143560939}}

// turned have the last one of a first.
func turned(a axes) axes {
	return axes{a[5], a[1], a[2], a[3], a[4], a[0]}
}

// some are axes with entries that may be: of some of them three lie in one plane.
func some() []axes {
	l := []axes{geom.Cone(), corners, plain, mixed, {}, {{1, 2, 0}, {-2, -4, 0}, {3, 1, 0}, {0, 5, 0}, {7, -1, 0}, {7, -1, 0}}}
	for n := range int64(60) {
		var a axes
		for i := range a {
			for k := range a[i] {
				at := n + 7*int64(i) + 3*int64(k)
				a[i][k] = (at*at*(n+11)+at*37+5)%61 - 30
			}
		}
		l = append(l, a)
	}
	return l
}

// right are those of some that are right.
func right() []axes {
	var l []axes
	for _, a := range some() {
		if geom.Right(a) == api.OK {
			l = append(l, a)
		}
	}
	return l
}

// every are axes of all kinds: some, and those whose entries leave the room.
func every() []axes {
	return append(some(), far, over, both, turned(both),
		axes{{1 << 21, 0, 0}, {0, 1 << 21, 0}, {0, 0, 1 << 21}, {1, 1 << 21, 1}, {1 << 22, 3, 1}, {1, 1, 1 << 22}},
		axes{{1 << 31, 0, 0}, {1 << 31, 0, 0}, {0, 1, 0}, {0, 0, 1}, {0, 0, 1 << 32}, {0, 1 << 32, 0}},
		axes{{1 << 32, 0, 0}, {0, 1 << 32, 0}, {0, 0, 1 << 32}, {1 << 32, 1 << 32, 1}, {1, 1 << 32, 1 << 32}, {1 << 32, 1, 1 << 32}},
	)
}

// eachSet calls f with all sets, and with numbers of them that have bits of no gyro.
func eachSet(f func(set, number int)) {
	others := []int{64, 1 << 31, math.MaxInt - 63, -64, math.MinInt, 1<<62 + 192}
	for set := range 64 {
		f(set, set)
		f(set, set|others[set%len(others)])
	}
}

// sized is whether the set, from 0 to 63, has at least n members.
func sized(set, n int) bool { return len(members(set)) >= n }

// members are the gyros in the set, from 0 to 63.
func members(set int) []int {
	var l []int
	for i := range 6 {
		if set>>i%2 == 1 {
			l = append(l, i)
		}
	}
	return l
}

// numbers are edges: near 0, the ends of the program's own limits, the roots of the room, and its ends.
func numbers() []int64 {
	l := []int64{0, 1, 2, 7, api.MaxEntry, api.MaxRate, api.MaxRead, 1<<31 - 1, 1 << 32, 3037000500, 1 << 62, greatest - 1, greatest}
	for _, x := range l[1:] {
		l = append(l, -x)
	}
	return append(l, lowest)
}

// reads are readings near 0, as great as they may be, and at the ends of the room; the air's are none of the gyros'.
func reads() []api.Read {
	l := []api.Read{
		{},
		{Value: [12]int64{1, 2, 3, 4, 5, 6, 7, 8, 9, 10, 11, 12}, There: [12]bool{true, false, true}},
		{Value: [12]int64{0, 0, 0, 0, 0, 0, 1, 1, 1, 1, 1, 1}},
		{Value: [12]int64{100, -250, 331, 17, -90, 5}},
		{Value: [12]int64{lowest}},
		{Value: [12]int64{0, lowest}},
		{Value: [12]int64{0, 0, 0, lowest}},
		{Value: [12]int64{lowest, lowest, lowest, lowest, lowest, lowest, 5}},
		{Value: [12]int64{greatest, greatest, greatest, greatest, greatest, greatest, 5}},
		{Value: [12]int64{api.MaxRead, -api.MaxRead, api.MaxRead, -api.MaxRead, api.MaxRead, -api.MaxRead, 5}},
	}
	n := numbers()
	for i := range n {
		var r api.Read
		for k := range r.Value {
			r.Value[k] = n[(3*i+5*k+k*k)%len(n)]
			r.There[k] = (i+k)%3 > 0
		}
		l = append(l, r)
	}
	return l
}

// rates are rates near 0, and as great as they may be.
func rates() []api.Vec {
	return []api.Vec{
		{}, {1, 0, 0}, {0, 1, 0}, {0, 0, 1}, {-3, 5, 7}, {1000, -2000, 300},
		{api.MaxRate, api.MaxRate, api.MaxRate}, {-api.MaxRate, -api.MaxRate, -api.MaxRate},
		{api.MaxRate, -api.MaxRate, api.MaxRate}, {-api.MaxRate, api.MaxRate, 1},
	}
}

// vast are rates at the ends of the room.
func vast() []api.Vec {
	return append(rates(), api.Vec{greatest, lowest, -1}, api.Vec{lowest, lowest, lowest}, api.Vec{1 << 32, 3, 1 << 62})
}

// reading is what the axes read of a rate, modulo 2^64.
func reading(a axes, rate api.Vec) api.Read {
	var r api.Read
	for n := range a {
		r.Value[n] = dot(a[n], rate)
		r.There[n] = true
	}
	return r
}

// around is x modulo 2^64, as a number with a sign.
func around(x *big.Int) int64 {
	turn := new(big.Int).Lsh(big.NewInt(1), 64)
	return int64(new(big.Int).Mod(x, turn).Uint64())
}

// product is of all its numbers.
func product(l ...int64) *big.Int {
	p := big.NewInt(1)
	for _, x := range l {
		p.Mul(p, big.NewInt(x))
	}
	return p
}

// sum is of all its numbers.
func sum(l ...*big.Int) *big.Int {
	s := new(big.Int)
	for _, x := range l {
		s.Add(s, x)
	}
	return s
}

// dot is the dot product, modulo 2^64.
func dot(a, b api.Vec) int64 {
	return around(sum(product(a[0], b[0]), product(a[1], b[1]), product(a[2], b[2])))
}

// det is the determinant of three rows, modulo 2^64, by the rule of six products.
func det(m api.Mat) int64 {
	a, b, c := m[0], m[1], m[2]
	plus := sum(product(a[0], b[1], c[2]), product(a[1], b[2], c[0]), product(a[2], b[0], c[1]))
	less := sum(product(a[2], b[1], c[0]), product(a[0], b[2], c[1]), product(a[1], b[0], c[2]))
	return around(plus.Sub(plus, less))
}

// cramer is the determinant with v in the column's place: the Adj, times v, at that place.
func cramer(m api.Mat, column int, v api.Vec) int64 {
	for row := range m {
		m[row][column] = v[row]
	}
	return det(m)
}

// gram is the chapter's, modulo 2^64.
func gram(a axes, set int) api.Mat {
	var m api.Mat
	for i := range m {
		for k := range m {
			var l []*big.Int
			for _, n := range members(set) {
				l = append(l, product(a[n][i], a[n][k]))
			}
			m[i][k] = around(sum(l...))
		}
	}
	return m
}

// size is fixq.Abs.
func size(x int64) int64 {
	switch {
	case x == lowest:
		return greatest
	case x < 0:
		return -x
	}
	return x
}

// quotient is the greatest whole number not above a / b, and whether it has room.
func quotient(a, b *big.Int) (int64, api.Errno) {
	if b.Sign() < 0 {
		a, b = new(big.Int).Neg(a), new(big.Int).Neg(b)
	}
	q := new(big.Int).Div(a, b)
	if !q.IsInt64() {
		return 0, api.ErrOver
	}
	return q.Int64(), api.OK
}

// nearest is the whole number that is nearest to a / b, of two the greater one.
func nearest(a, b int64) (int64, api.Errno) {
	return quotient(sum(product(2, a), big.NewInt(b)), product(2, b))
}

// best is what a set's table must be.
type best struct {
	table [3]api.Row
	det   int64
	err   api.Errno
}

// bests are those of all sets.
func bests(a axes) [64]best {
	var l [64]best
	for set := range l {
		g := gram(a, set)
		d := det(g)
		if d == 0 {
			l[set].err = api.ErrFlat
			continue
		}
		l[set].det = d
		for _, n := range members(set) {
			for axis := range 3 {
				l[set].table[axis][n] = cramer(g, axis, a[n])
			}
		}
	}
	return l
}

// estimate is what must be told of the readings.
func (b best) estimate(r api.Read) (api.Vec, api.Errno) {
	var v api.Vec
	for axis := range v {
		if b.err != api.OK {
			return api.Vec{}, b.err
		}
		var l []*big.Int
		for n, factor := range b.table[axis] {
			l = append(l, product(factor, r.Value[n]))
		}
		v[axis], b.err = nearest(around(sum(l...)), b.det)
	}
	if b.err != api.OK {
		return api.Vec{}, b.err
	}
	return v, api.OK
}

// bound is how far that may be off.
func (b best) bound(eps int64) api.Vec {
	var v api.Vec
	for axis := range v {
		if b.err != api.OK {
			return api.Vec{}
		}
		var l []*big.Int
		for _, factor := range b.table[axis] {
			l = append(l, big.NewInt(size(factor)))
		}
		times := around(product(around(sum(l...)), eps))
		by := size(b.det)
		v[axis], _ = quotient(sum(big.NewInt(times), big.NewInt(by-1)), big.NewInt(by))
	}
	return v
}

// left is what is left of the members' readings.
func left(a axes, set int, r api.Read, v api.Vec) [6]int64 {
	var l [6]int64
	for _, n := range members(set) {
		l[n] = around(sum(big.NewInt(r.Value[n]), product(-1, dot(a[n], v))))
	}
	return l
}

// squares is the sum of all squares, modulo 2^64.
func squares(l [6]int64) int64 {
	var s []*big.Int
	for _, x := range l {
		s = append(s, product(x, x))
	}
	return around(sum(s...))
}

// isTable fails if Table is not want.
func isTable(t *testing.T, a axes, set int, want best) {
	t.Helper()
	table, d, err := least.Table(a, set)
	is(t, call("Table", a, set), table, want.table)
	is(t, call("Det of Table", a, set), d, want.det)
	is(t, call("error of Table", a, set), err, want.err)
}

// isEstimate fails if Estimate is not want, or its error not wantErr.
func isEstimate(t *testing.T, a axes, set int, r api.Read, want api.Vec, wantErr api.Errno) {
	t.Helper()
	v, err := least.Estimate(a, set, r)
	is(t, call("Estimate", a, set, r.Value), v, want)
	is(t, call("error of Estimate", a, set, r.Value), err, wantErr)
}

// isWithout fails if Without is not want, or its error not wantErr.
func isWithout(t *testing.T, a axes, set int, r api.Read, want int, wantErr api.Errno) {
	t.Helper()
	n, err := least.Without(a, set, r)
	is(t, call("Without", a, set, r.Value), n, want)
	is(t, call("error of Without", a, set, r.Value), err, wantErr)
}

// isMedian fails if Median is not want, or its error not wantErr.
func isMedian(t *testing.T, a axes, set int, r api.Read, want api.Vec, wantErr api.Errno) {
	t.Helper()
	v, err := least.Median(a, set, r)
	is(t, call("Median", a, set, r.Value), v, want)
	is(t, call("error of Median", a, set, r.Value), err, wantErr)
}

// P12.1: the members' products add up, modulo 2^64.
func TestP1Gram(t *testing.T) {
	for _, r := range []struct {
		a    axes
		set  int
		want api.Mat
	}{
		{plain, 0, api.Mat{}},
		{plain, 64, api.Mat{}},
		{plain, 1, api.Mat{{1, 0, 0}}},
		{plain, 3, api.Mat{{5, 0, 0}}},
		{mixed, 8, api.Mat{{1, 1, 0}, {1, 1, 0}}},
		{mixed, 15, api.Mat{{5, 1, 0}, {1, 10, 0}, {0, 0, 25}}},
		{mixed, -1, api.Mat{{5, 1, 0}, {1, 10, 0}, {0, 0, 25}}},
		{axes{{1, 2, 3}}, 1, api.Mat{{1, 2, 3}, {2, 4, 6}, {3, 6, 9}}},
		{axes{5: {1, -2, 3}}, 32, api.Mat{{1, -2, 3}, {-2, 4, -6}, {3, -6, 9}}},
		{axes{{lowest, 3, 1 << 32}}, 1, api.Mat{{0, lowest, 0}, {lowest, 9, 3 << 32}, {0, 3 << 32, 0}}},
		{over, 15, api.Mat{{2, 2, root7}, {2, 5, 2 * root7}, {root7, 2 * root7, -6}}},
	} {
		is(t, call("Gram", r.a, r.set), least.Gram(r.a, r.set), r.want)
	}
	for _, a := range every() {
		eachSet(func(set, number int) {
			is(t, call("Gram", a, number), least.Gram(a, number), gram(a, set))
		})
	}
}

// P12.2, of factors that are known.
func TestP2TableByHand(t *testing.T) {
	for _, r := range []struct {
		a    axes
		set  int
		want best
	}{
		{plain, 13, best{[3]api.Row{{1}, {0, 0, 1}, {0, 0, 0, 1}}, 1, api.OK}},
		{plain, 14, best{[3]api.Row{{0, 2}, {0, 0, 4}, {0, 0, 0, 4}}, 4, api.OK}},
		{plain, 15, best{[3]api.Row{{1, 2}, {0, 0, 5}, {0, 0, 0, 5}}, 5, api.OK}},
		{mixed, 15, best{[3]api.Row{{500, -75, 0, 225}, {-50, 375, 0, 100}, {0, 0, 245, 0}}, 1225, api.OK}},
		{mixed, 15 | -64, best{[3]api.Row{{500, -75, 0, 225}, {-50, 375, 0, 100}, {0, 0, 245, 0}}, 1225, api.OK}},
		{over, 15, best{[3]api.Row{{-2, -2, -root7, 1}, {-2, -5, -2 * root7, 2}, {-root7, -2 * root7, 6, root7}}, -1, api.OK}},
	} {
		isTable(t, r.a, r.set, r.want)
	}
}

// P12.2, and the chapter's example: of two gyros, of fewer, and of some in one plane.
func TestP2Flat(t *testing.T) {
	flat := best{err: api.ErrFlat}
	for _, a := range every() {
		eachSet(func(set, number int) {
			if !sized(set, 3) {
				isTable(t, a, number, flat)
			}
		})
	}
	isTable(t, plain, 7, flat)
	isTable(t, plain, 11, flat)
	isTable(t, plain, 48, flat)
	isTable(t, mixed, 11, flat)
	isTable(t, mixed, 51, flat)
	isTable(t, both, 62, flat)
	isTable(t, axes{}, 63, flat)
	// Its Det is 2^64.
	isTable(t, axes{{1 << 32, 0, 0}, {0, 1, 0}, {0, 0, 1}}, 7, flat)
}

// P12.2: each factor and Det, of axes of all kinds and all sets.
func TestP2Table(t *testing.T) {
	for _, a := range every() {
		want := bests(a)
		eachSet(func(set, number int) {
			isTable(t, a, number, want[set])
		})
	}
}

// P12.3: rounded to the nearest, of two to the greater one; whether a reading is There is not asked.
func TestP3EstimateByHand(t *testing.T) {
	for _, r := range []struct {
		a     axes
		set   int
		value [12]int64
		want  api.Vec
	}{
		{plain, 13, [12]int64{7, 99, -8, 9, 99, 99, 99}, api.Vec{7, -8, 9}},
		{plain, 14, [12]int64{99, 1, -1, 0}, api.Vec{1, -1, 0}},
		{plain, 14, [12]int64{99, -1, 0, 1}, api.Vec{0, 0, 1}},
		{plain, 14, [12]int64{99, 3, 0, 1}, api.Vec{2, 0, 1}},
		{plain, 14, [12]int64{99, -3, 0, 1}, api.Vec{-1, 0, 1}},
		{plain, 15, [12]int64{1, 3, 0, 0}, api.Vec{1, 0, 0}},
		{plain, 15, [12]int64{1, 4, 0, 0}, api.Vec{2, 0, 0}},
		{mixed, 15, [12]int64{3, 2, 7, 4}, api.Vec{2, 1, 1}},
		{mixed, 15, [12]int64{-3, -2, -8, -4}, api.Vec{-2, -1, -2}},
	} {
		isEstimate(t, r.a, r.set, api.Read{Value: r.value}, r.want, api.OK)
		isEstimate(t, r.a, r.set, api.Read{Value: r.value, There: [12]bool{0: true, 3: true, 6: true}}, r.want, api.OK)
	}
}

// P12.3: what is flat, and an axis of which the rate has no room; then all are 0.
func TestP3EstimateErrors(t *testing.T) {
	isEstimate(t, plain, 3, reading(plain, api.Vec{1, 2, 3}), api.Vec{}, api.ErrFlat)
	isEstimate(t, mixed, 11, reading(mixed, api.Vec{1, 2, 3}), api.Vec{}, api.ErrFlat)
	isEstimate(t, plain, 0, api.Read{}, api.Vec{}, api.ErrFlat)
	isEstimate(t, over, 15, reading(over, api.Vec{1, 2, 3}), api.Vec{1, 2, 3}, api.OK)
	isEstimate(t, over, 15, api.Read{Value: [12]int64{3: lowest}}, api.Vec{}, api.ErrOver)
	isEstimate(t, over, 15, api.Read{Value: [12]int64{1: lowest}}, api.Vec{}, api.ErrOver)
	isEstimate(t, over, 15, api.Read{Value: [12]int64{0: lowest}}, api.Vec{}, api.ErrOver)
}

// P12.3: of axes of all kinds, all sets and all readings.
func TestP3Estimate(t *testing.T) {
	for _, a := range every() {
		all := bests(a)
		for place, r := range reads() {
			eachSet(func(set, number int) {
				if (set+place)%3 == 0 || set == 63 {
					want, err := all[set].estimate(r)
					isEstimate(t, a, number, r, want, err)
				}
			})
		}
	}
}

// P12.4: rounded up, by the size of Det, modulo 2^64.
func TestP4BoundByHand(t *testing.T) {
	// Its Det is the least number, whose size is the greatest one.
	wide := axes{{1 << 31, 0, 0}, {1 << 31, 0, 0}, {0, 1, 0}, {0, 0, 1}}
	for _, r := range []struct {
		a    axes
		set  int
		eps  int64
		want api.Vec
	}{
		{plain, 13, 5, api.Vec{5, 5, 5}},
		{plain, 14, 5, api.Vec{3, 5, 5}},
		{plain, 14, 4, api.Vec{2, 4, 4}},
		{plain, 15, 1, api.Vec{1, 1, 1}},
		{plain, 15, 10, api.Vec{6, 10, 10}},
		{mixed, 15, 0, api.Vec{}},
		{mixed, 15, 1, api.Vec{1, 1, 1}},
		{mixed, 15, 2, api.Vec{2, 1, 1}},
		{mixed, 15, 1225, api.Vec{800, 525, 245}},
		{mixed, 15, -1, api.Vec{0, 0, 0}},
		{mixed, 15, -2, api.Vec{-1, 0, 0}},
		{mixed, 15, 1 << 62, api.Vec{0, 1<<62/1225 + 1, 1<<62/1225 + 1}},
		{wide, 15, 1 << 31, api.Vec{-1, 0, 0}},
		{wide, 15, 1<<31 - 1, api.Vec{1, 1, 1}},
		{over, 15, 0, api.Vec{}},
	} {
		v, err := least.Bound(r.a, r.set, r.eps)
		is(t, call("Bound", r.a, r.set, r.eps), v, r.want)
		is(t, call("error of Bound", r.a, r.set, r.eps), err, api.OK)
	}
	for _, set := range []int{0, 3, 7, 11, 48, 64, -64} {
		v, err := least.Bound(plain, set, 5)
		is(t, call("Bound", plain, set), v, api.Vec{})
		is(t, call("error of Bound", plain, set), err, api.ErrFlat)
	}
}

// P12.4: of axes of all kinds, all sets, and all that readings may be off by.
func TestP4Bound(t *testing.T) {
	for _, a := range every() {
		all := bests(a)
		for place, eps := range numbers() {
			eachSet(func(set, number int) {
				if (set+place)%3 == 0 || set == 63 {
					v, err := least.Bound(a, number, eps)
					is(t, call("Bound", a, number, eps), v, all[set].bound(eps))
					is(t, call("error of Bound", a, number, eps), err, all[set].err)
				}
			})
		}
	}
}

// P12.5: the members' alone, modulo 2^64.
func TestP5Left(t *testing.T) {
	r := api.Read{Value: [12]int64{10, 20, 30, 40, 50, 60, 70}}
	for _, c := range []struct {
		set  int
		v    api.Vec
		want [6]int64
	}{
		{63, api.Vec{}, [6]int64{10, 20, 30, 40, 50, 60}},
		{63, api.Vec{1, 2, 3}, [6]int64{9, 18, 28, 37, 44, 78}},
		{21, api.Vec{1, 2, 3}, [6]int64{9, 0, 28, 0, 44, 0}},
		{42 | -64, api.Vec{1, 2, 3}, [6]int64{0, 18, 0, 37, 0, 78}},
		{0, api.Vec{1, 2, 3}, [6]int64{}},
		{64, api.Vec{1, 2, 3}, [6]int64{}},
		{3, api.Vec{lowest}, [6]int64{lowest + 10, 20}},
		{3, api.Vec{greatest}, [6]int64{-greatest + 10, 22}},
	} {
		is(t, call("Left", c.set, c.v), least.Left(plain, c.set, r, c.v), c.want)
	}
	for _, a := range every() {
		for _, v := range vast() {
			for place, r := range reads() {
				set := (place*11 + int(v[2]&7)) % 64
				is(t, call("Left", a, set, r.Value, v), least.Left(a, set, r, v), left(a, set, r, v))
				is(t, call("Left", a, 63, r.Value, v), least.Left(a, 63, r, v), left(a, 63, r, v))
			}
		}
	}
}

// P12.6: squares add up, modulo 2^64.
func TestP6Sum(t *testing.T) {
	for _, r := range []struct {
		l    [6]int64
		want int64
	}{
		{[6]int64{}, 0},
		{[6]int64{1, 2, 3, 4, 5, 6}, 91},
		{[6]int64{-1, -2, -3, -4, -5, -6}, 91},
		{[6]int64{0, 0, 0, 0, 0, -7}, 49},
		{[6]int64{lowest, 1, 0, 0, 0, 0}, 1},
		{[6]int64{greatest, 0, 0, 0, 0, 0}, 1},
		{[6]int64{1 << 31, 1 << 31, 0, 0, 0, 0}, lowest},
		{[6]int64{3037000500, 0, 0, 0, 0, 0}, 9223372037000250000 - 1<<64},
	} {
		is(t, call("Sum", r.l), least.Sum(r.l), r.want)
	}
	for _, a := range every() {
		is(t, call("Sum", a), least.Sum([6]int64{a[0][0], a[1][1], a[2][2], a[3][0], a[4][1], a[5][2]}),
			squares([6]int64{a[0][0], a[1][1], a[2][2], a[3][0], a[4][1], a[5][2]}))
	}
	for _, r := range reads() {
		l := [6]int64(r.Value[:6])
		is(t, call("Sum", l), least.Sum(l), squares(l))
	}
}

// P12.7: the one whose readings do not fit; of several that are as good the first.
func TestP7WithoutByHand(t *testing.T) {
	cone := geom.Cone()
	r := reading(cone, api.Vec{300, -200, 100})
	isWithout(t, cone, 63, r, 0, api.OK)
	isWithout(t, cone, 62, r, 1, api.OK)
	isWithout(t, cone, 60|-64, r, 2, api.OK)
	r.Value[4] += 9
	isWithout(t, cone, 63, r, 4, api.OK)
	isWithout(t, cone, 63|64, r, 4, api.OK)
	isWithout(t, cone, 62, r, 4, api.OK)
	isWithout(t, cone, 15, r, 0, api.OK) // four gyros: the others always fit, but for what is rounded
	isWithout(t, cone, 47, r, 0, api.OK)
	r.Value[2] += 900
	isWithout(t, cone, 63, r, 2, api.OK)
}

// P12.7: the first error of the Estimates; and nobody.
func TestP7WithoutErrors(t *testing.T) {
	r := api.Read{Value: [12]int64{1: lowest}}
	for _, set := range []int{0, 64, 1 << 40, -64, math.MinInt} {
		isWithout(t, plain, set, r, 0, api.ErrNone)
	}
	for set := range 64 {
		if sized(set, 1) && !sized(set, 4) {
			isWithout(t, geom.Cone(), set, api.Read{}, 0, api.ErrFlat)
		}
	}
	isWithout(t, mixed, 15, api.Read{}, 0, api.ErrFlat) // who is alone with an axis of the rate is the last one
	isWithout(t, over, 31, r, 0, api.ErrOver)
	isWithout(t, over, 31, api.Read{}, 0, api.OK)
	isWithout(t, both, 63, r, 0, api.ErrFlat)
	isWithout(t, turned(both), 63, r, 0, api.ErrOver)
}

// P12.7: of axes of all kinds, all sets and all readings.
func TestP7Without(t *testing.T) {
	for _, a := range every() {
		all := bests(a)
		for place, r := range reads() {
			eachSet(func(set, number int) {
				if (set+place)%7 != 0 && set != 63 {
					return
				}
				want, wantErr := without(a, all, set, r)
				isWithout(t, a, number, r, want, wantErr)
			})
		}
	}
}

// without is the chapter's, of the set, from 0 to 63.
func without(a axes, all [64]best, set int, r api.Read) (int, api.Errno) {
	who, fewest := -1, int64(0)
	for _, n := range members(set) {
		others := set - 1<<n
		v, err := all[others].estimate(r)
		if err != api.OK {
			return 0, err
		}
		if s := squares(left(a, others, r, v)); who < 0 || s < fewest {
			who, fewest = n, s
		}
	}
	if who < 0 {
		return 0, api.ErrNone
	}
	return who, api.OK
}

// P12.8: the middle, of two the lower one, of each axis for itself; what is flat does not count.
func TestP8MedianByHand(t *testing.T) {
	// All read the first axis alone, but for the last two.
	lone := axes{{1, 0, 0}, {2, 0, 0}, {1, 0, 0}, {-1, 0, 0}, {0, 1, 0}, {0, 0, 1}}
	for _, r := range []struct {
		set   int
		value [12]int64
		want  api.Vec
	}{
		{49, [12]int64{7, 0, 0, 0, -5, 6}, api.Vec{7, -5, 6}},
		{51, [12]int64{7, 8, 0, 0, -5, 6}, api.Vec{4, -5, 6}},
		{51, [12]int64{3, 8, 0, 0, -5, 6}, api.Vec{3, -5, 6}},
		{51, [12]int64{9, 7, 0, 0, -5, 6}, api.Vec{4, -5, 6}},
		{51, [12]int64{9, -7, 0, 0, -5, 6}, api.Vec{-3, -5, 6}},
		{55, [12]int64{9, 10, 1, 0, -5, 6}, api.Vec{5, -5, 6}},
		{55, [12]int64{9, 10, 900, 0, -5, 6}, api.Vec{9, -5, 6}},
		{63, [12]int64{9, 10, 900, 0, -5, 6}, api.Vec{5, -5, 6}},
		{63, [12]int64{9, 10, 900, -800, -5, 6}, api.Vec{9, -5, 6}},
		{63 | -64, [12]int64{9, 10, -900, 800, -5, 6}, api.Vec{-800, -5, 6}},
	} {
		isMedian(t, lone, r.set, api.Read{Value: r.value}, r.want, api.OK)
		isMedian(t, lone, r.set, api.Read{Value: r.value, There: [12]bool{2: true, 5: true}}, r.want, api.OK)
	}
	for _, set := range []int{0, 1, 48, 15, 31, 47, 64, -64 + 15} {
		isMedian(t, lone, set, api.Read{Value: [12]int64{1, 2, 3, 4, 5, 6}}, api.Vec{}, api.ErrFlat)
	}
}

// P12.8: what has no room does not count, at that axis alone; none, where there is no other.
func TestP8MedianWithoutRoom(t *testing.T) {
	down := axes{{1, 0, 0}, {0, 1, 0}, {0, 0, -1}, {1, 0, 0}, {1, 0, 0}, {0, 1, 0}}
	r := api.Read{Value: [12]int64{lowest, 5, -6, 4, 3, lowest}}
	isMedian(t, down, 7, r, api.Vec{}, api.ErrFlat)
	isMedian(t, down, 15, r, api.Vec{4, 5, 6}, api.OK)
	isMedian(t, down, 31, r, api.Vec{3, 5, 6}, api.OK)
	isMedian(t, down, 28|2, r, api.Vec{3, 5, 6}, api.OK)
	isMedian(t, down, 28|32, r, api.Vec{}, api.ErrFlat)
	isMedian(t, down, 28|32|2, r, api.Vec{3, 5, 6}, api.OK)
}

// P12.8: of axes of all kinds, all sets and all readings.
func TestP8Median(t *testing.T) {
	for _, a := range every() {
		for place, r := range reads() {
			eachSet(func(set, number int) {
				if (set+place)%7 != 0 && set != 63 {
					return
				}
				want, wantErr := median(a, members(set), r)
				isMedian(t, a, number, r, want, wantErr)
			})
		}
	}
}

// median is the chapter's, of all three gyros of some.
func median(a axes, gyros []int, r api.Read) (api.Vec, api.Errno) {
	var l [3][]int64
	for x, i := range gyros {
		for y, j := range gyros[:x] {
			for _, k := range gyros[:y] {
				m := api.Mat{a[k], a[j], a[i]}
				d := det(m)
				for axis := range 3 {
					if d == 0 {
						continue
					}
					told, err := nearest(cramer(m, axis, api.Vec{r.Value[k], r.Value[j], r.Value[i]}), d)
					if err == api.OK {
						l[axis] = append(l[axis], told)
					}
				}
			}
		}
	}
	var v api.Vec
	for axis := range v {
		if len(l[axis]) == 0 {
			return api.Vec{}, api.ErrFlat
		}
		slices.Sort(l[axis])
		v[axis] = l[axis][(len(l[axis])-1)/2]
	}
	return v, api.OK
}

// P12.9: who is off by at most eps, either way, as a set of gyros alone.
func TestP9Votes(t *testing.T) {
	r := api.Read{Value: [12]int64{3, -3, 4, lowest, greatest, 0, 9}}
	for _, c := range []struct {
		set  int
		eps  int64
		want int
	}{
		{63, -1, 0}, {63, lowest, 0}, {63, 0, 32}, {63, 2, 32}, {63, 3, 35}, {63, 4, 39},
		{63, greatest - 1, 39}, {63, greatest, 63},
		{0, greatest, 0}, {64, greatest, 0}, {-64, greatest, 0}, {-1, greatest, 63}, {-1, 3, 35},
		{5, 3, 1}, {6, 3, 2}, {6, 4, 6}, {24, greatest, 24}, {31, 3, 3}, {127, 3, 35},
	} {
		is(t, call("Votes", c.set, c.eps), least.Votes(plain, c.set, r, api.Vec{}, c.eps), c.want)
	}
	r = reading(plain, api.Vec{5, 6, 7})
	r.Value[1]++
	r.Value[4] -= 2
	is(t, call("Votes"), least.Votes(plain, 63, r, api.Vec{5, 6, 7}, 0), 45)
	is(t, call("Votes"), least.Votes(plain, 63, r, api.Vec{5, 6, 7}, 1), 47)
	is(t, call("Votes"), least.Votes(plain, 63, r, api.Vec{5, 6, 7}, 2), 63)
	is(t, call("Votes"), least.Votes(plain, 63, r, api.Vec{5, 6, 8}, 0), 5)
	edges := numbers()
	for _, a := range every() {
		for at, v := range vast() {
			for place, r := range reads() {
				set, eps := (place*11+at)%64, edges[(place+7*at)%len(edges)]
				want := 0
				for n, x := range left(a, set, r, v) {
					if set>>n%2 == 1 && size(x) <= eps {
						want += 1 << n
					}
				}
				is(t, call("Votes", a, set, r.Value, v, eps), least.Votes(a, set, r, v, eps), want)
				is(t, call("Votes", a, set|-64, r.Value, v, eps), least.Votes(a, set|-64, r, v, eps), want)
			}
		}
	}
}

// P12.10: what a rate makes a set of three or more read is that rate; off by at most eps, it is off by no more than Bound.
func TestP10EstimateAndBound(t *testing.T) {
	for _, a := range right() {
		eachSet(func(set, number int) {
			if !sized(set, 3) {
				return
			}
			for place, rate := range rates() {
				isEstimate(t, a, number, reading(a, rate), rate, api.OK)
				if number == set {
					isWithinBound(t, a, set, rate, []int64{1, 2, 60, 1000}[(set+place)%4])
				}
			}
		})
	}
}

// isWithinBound fails if readings that are off by at most eps make the Estimate off by more than Bound; or if Bound is more than is needed.
func isWithinBound(t *testing.T, a axes, set int, rate api.Vec, eps int64) {
	t.Helper()
	bound, err := least.Bound(a, set, eps)
	is(t, call("error of Bound", a, set), err, api.OK)
	table, _, _ := least.Table(a, set)
	for turn := range 3 { // off as is worst for one axis, one way and the other
		for _, way := range []int64{eps, -eps} {
			r := reading(a, rate)
			for n := range r.Value[:6] {
				if table[turn][n] < 0 {
					r.Value[n] -= way
				} else {
					r.Value[n] += way
				}
			}
			v, err := least.Estimate(a, set, r)
			is(t, call("error of Estimate", a, set, r.Value), err, api.OK)
			for axis := range v {
				off := size(v[axis] - rate[axis])
				is(t, call("whether the Bound holds", a, set, r.Value, axis), off <= bound[axis], true)
				if axis == turn {
					is(t, call("whether the Bound is tight", a, set, r.Value, axis), off >= bound[axis]-1, true)
				}
			}
		}
	}
}

// P12.10: readings as great as they may be, whatever they are of: nothing goes round.
func TestP10GreatReadings(t *testing.T) {
	for _, a := range right() {
		for set := range 64 {
			if !sized(set, 3) {
				continue
			}
			table, d, _ := least.Table(a, set)
			for axis := range 3 {
				var r api.Read
				var l []*big.Int
				for n, factor := range table[axis] {
					r.Value[n] = api.MaxRead
					if factor < 0 {
						r.Value[n] = -api.MaxRead
					}
					l = append(l, product(factor, r.Value[n]))
				}
				whole := sum(l...)
				is(t, call("whether there is room", a, set, axis), whole.IsInt64(), true)
				want, _ := nearest(whole.Int64(), d)
				v, err := least.Estimate(a, set, r)
				is(t, call("error of Estimate", a, set, r.Value), err, api.OK)
				is(t, call("Estimate", a, set, r.Value), v[axis], want)
				bound, _ := least.Bound(a, set, api.MaxRead)
				is(t, call("Bound", a, set, axis), bound[axis] >= want, true)
			}
		}
	}
}

// P12.11: what a rate makes a set read leaves nothing; among five or six who alone is off is found.
func TestP11NothingLeft(t *testing.T) {
	for _, a := range every() {
		for _, rate := range vast() {
			eachSet(func(set, number int) {
				is(t, call("Left", a, number, rate), least.Left(a, number, reading(a, rate), rate), [6]int64{})
			})
		}
	}
	for _, a := range right() {
		for _, rate := range rates() {
			for set := range 64 {
				if !sized(set, 5) {
					continue
				}
				for _, n := range members(set) {
					for _, off := range []int64{1, -1, 7, -1000, api.MaxRate} {
						r := reading(a, rate)
						r.Value[n] += off
						isWithout(t, a, set, r, n, api.OK)
						others := set - 1<<n
						isEstimate(t, a, others, r, rate, api.OK)
						is(t, call("Left", a, others, r.Value), least.Left(a, others, r, rate), [6]int64{})
					}
				}
			}
		}
	}
}

// P12.12: what a rate makes a set read has it as Median; all vote for it, but for who reads otherwise.
func TestP12MedianAndVotes(t *testing.T) {
	for _, a := range right() {
		for _, rate := range rates() {
			eachSet(func(set, number int) {
				if !sized(set, 3) {
					return
				}
				r := reading(a, rate)
				isMedian(t, a, number, r, rate, api.OK)
				is(t, call("Votes", a, number, rate), least.Votes(a, number, r, rate, 0), set)
				for n := range 6 {
					off := r
					off.Value[n] += 5
					is(t, call("Votes", a, number, rate, n), least.Votes(a, number, off, rate, 0), set&^(1<<n))
					is(t, call("Votes", a, number, rate, n), least.Votes(a, number, off, rate, 4), set&^(1<<n))
					is(t, call("Votes", a, number, rate, n), least.Votes(a, number, off, rate, 5), set)
				}
			})
		}
	}
}
