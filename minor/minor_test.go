package minor_test

import (
	"fmt"
	"math"
	"math/big"
	"testing"

	"teetotum/api"
	"teetotum/fixq"
	"teetotum/geom"
	"teetotum/minor"
	"teetotum/vec"
)

const (
	greatest int64 = math.MaxInt64
	least    int64 = math.MinInt64
)

type axes = [6]api.Vec

// asked is a call, written out only where it is told.
type asked struct {
	name string
	args []any
}

func call(name string, args ...any) asked { return asked{name, args} }

func (a asked) String() string { return a.name + " of " + fmt.Sprint(a.args...) }

// is fails if got is not want.
func is[T comparable](t *testing.T, what asked, got, want T) {
	t.Helper()
	if got != want {
		t.Fatalf("%s: %v, want %v", what, got, want)
	}
}

// cone are geom's axes, written out.
var cone = axes{{10, 0, 5}, {5, 9, 5}, {-5, 9, 6}, {-10, 1, 5}, {-5, -9, 5}, {6, -9, 5}}

// plane are six axes in one plane; the first two, and the last two, of one direction.
var plane = axes{{1, 2, 0}, {-2, -4, 0}, {3, 1, 0}, {0, 5, 0}, {7, -1, 0}, {7, -1, 0}}

// corners are axes with entries as great as they may be.
var corners = axes{{30, 0, 0}, {0, 30, 0}, {0, 0, 30}, {30, 30, 30}, {30, -30, 29}, {-30, 10, 20}}

// far are axes with entries at the ends of the room.
var far = axes{{greatest, least, 1}, {1, greatest, 2}, {3, 1, least}, {least, least, 5}, {7, 11, 13}, {greatest, 1, 1}}

// every are axes of all kinds: right, in one plane, and with entries at the ends of the room.
func every() []axes {
	l := []axes{
		{}, cone, plane, corners, far,
		{{1, 0, 0}, {1, 0, 0}, {0, 1, 0}, {0, 0, 1}, {1, 1, 1}, {1, 2, 4}},
		{{1 << 21, 0, 0}, {0, 1 << 21, 0}, {0, 0, 1 << 21}, {1, 1 << 21, 1}, {1 << 22, 3, 1}, {1, 1, 1 << 22}},
		{{1 << 32, 0, 0}, {0, 1 << 32, 0}, {0, 0, 1 << 32}, {1 << 32, 1 << 32, 1}, {1, 1 << 32, 1 << 32}, {1 << 32, 1, 1 << 32}},
	}
	for n := range int64(100) {
		var a axes
		for i := range a {
			for k := range a[i] {
				at := n + 7*int64(i) + 3*int64(k)
				a[i][k] = (at*at*(n+11)+at*37+5)%61 - 30
			}
		}
		l = append(l, a)
	}
	return l
}

// numbers are edges: 0, the ends of the program's own limits, the roots of the room, and its ends.
func numbers() []int64 {
	l := []int64{0, 1, 2, 6, api.MaxEntry, api.MaxRate, api.MaxRead, 1<<31 - 1, 1 << 32, 3037000500, 1 << 62, greatest - 1, greatest}
	for _, x := range l[1:] {
		l = append(l, -x)
	}
	return append(l, least)
}

// rows are of small numbers, of multiples of one number, and of edges.
func rows() []api.Row {
	var l []api.Row
	for n := range 729 {
		var w api.Row
		for i := range w {
			w[i] = int64(n%3 - 1)
			n /= 3
		}
		l = append(l, w)
	}
	n := numbers()
	at := func(i int) int64 { return n[i%len(n)] }
	for i, x := range n {
		l = append(l,
			api.Row{x, at(5*i + 2), at(7*i + 3), at(11*i + 1), at(3*i + 5), at(2*i + 9)},
			api.Row{6 * int64(i), 0, -15 * int64(i), 21 * int64(i), 9, -3},
			api.Row{12, -30, 0, 42 * int64(i), 0, 18},
			api.Row{0, 0, x, 0, 0, 0},
			api.Row{0, 0, 0, -x, 0, x},
			api.Row{x, x, x, x, x, x},
			api.Row{x, x, 2, 0, 0, 0},
		)
	}
	return l
}

// reads are readings near 0, as great as they may be, and at the ends of the room; the air's are none of the gyros'.
func reads() []api.Read {
	l := []api.Read{
		{},
		{Value: [12]int64{1, 2, 3, 4, 5, 6, 7, 8, 9, 10, 11, 12}, There: [12]bool{true, false, true}},
		{Value: [12]int64{0, 0, 0, 0, 0, 0, 1, 1, 1, 1, 1, 1}},
		{Value: [12]int64{greatest, greatest, greatest, greatest, greatest, greatest, 5}},
		{Value: [12]int64{least, least, least, least, least, least, 5}},
		{Value: [12]int64{api.MaxRead, -api.MaxRead, api.MaxRead, -api.MaxRead, api.MaxRead, -api.MaxRead, 5}},
	}
	n := numbers()
	for i := range n {
		var r api.Read
		for k := range r.Value {
			r.Value[k] = n[(3*i+5*k+k*k)%len(n)]
		}
		l = append(l, r)
	}
	return l
}

// rates are rates near 0, as great as they may be, and at the ends of the room.
func rates() []api.Vec {
	return []api.Vec{
		{}, {1, 0, 0}, {0, 1, 0}, {0, 0, 1}, {-3, 5, 7}, {1000, -2000, 300},
		{api.MaxRate, -api.MaxRate, api.MaxRate}, {greatest, least, -1}, {least, least, least}, {1 << 32, 3, 1 << 62},
	}
}

// reading is what the axes read of a rate, modulo 2^64.
func reading(a axes, rate api.Vec) api.Read {
	var r api.Read
	for n, axis := range a {
		r.Value[n] = axis[0]*rate[0] + axis[1]*rate[1] + axis[2]*rate[2]
		r.There[n] = true
	}
	return r
}

// around is x modulo 2^64, as a number with a sign.
func around(x *big.Int) int64 {
	turn := new(big.Int).Lsh(big.NewInt(1), 64)
	return int64(new(big.Int).Mod(x, turn).Uint64())
}

// product is of all its numbers.
func product(l ...int64) *big.Int {
	p := big.NewInt(1)
	for _, x := range l {
		p.Mul(p, big.NewInt(x))
	}
	return p
}

// sum is of all its numbers.
func sum(l ...*big.Int) *big.Int {
	s := new(big.Int)
	for _, x := range l {
		s.Add(s, x)
	}
	return s
}

// det is the determinant of three rows, modulo 2^64, by the rule of six products.
func det(a, b, c api.Vec) int64 {
	plus := sum(product(a[0], b[1], c[2]), product(a[1], b[2], c[0]), product(a[2], b[0], c[1]))
	less := sum(product(a[2], b[1], c[0]), product(a[0], b[2], c[1]), product(a[1], b[0], c[2]))
	return around(plus.Sub(plus, less))
}

// size is fixq.Abs.
func size(x int64) int64 {
	switch {
	case x == least:
		return greatest
	case x < 0:
		return -x
	}
	return x
}

// sizes are those of all factors.
func sizes(w api.Row) []*big.Int {
	var l []*big.Int
	for _, factor := range w {
		l = append(l, big.NewInt(size(factor)))
	}
	return l
}

// common is the greatest number that divides all sizes.
func common(w api.Row) int64 {
	c := new(big.Int)
	for _, x := range sizes(w) {
		c.GCD(nil, nil, c, x)
	}
	return c.Int64()
}

// weight is the sum of all sizes, modulo 2^64.
func weight(w api.Row) int64 { return around(sum(sizes(w)...)) }

// noGyros are numbers that no gyro has.
func noGyros() []int {
	return []int{-1, -2, 6, 7, 12, 1 << 32, math.MaxInt, math.MinInt}
}

// P10.1, and the chapter's example.
func TestP1RowOfCone(t *testing.T) {
	for _, r := range []struct {
		pair int
		want api.Row
	}{
		{14, api.Row{305, -815, 875, -540, 0, 0}},
		{-1, api.Row{}},
		{15, api.Row{}},
		{16, api.Row{}},
		{math.MaxInt, api.Row{}},
		{math.MinInt, api.Row{}},
	} {
		is(t, call("Row", r.pair), minor.Row(geom.Cone(), r.pair), r.want)
	}
}

// P10.1: which sign each factor has, and whose axes it is made of.
func TestP1RowByHand(t *testing.T) {
	// Of axes 1, n, n n the determinants are the products of the differences.
	var a axes
	for n := range a {
		x := int64(n)
		a[n] = api.Vec{1, x, x * x}
	}
	for _, r := range []struct {
		pair int
		want api.Row
	}{
		{0, api.Row{0, 0, 2, -6, 6, -2}},
		{1, api.Row{0, 2, 0, -12, 16, -6}},
		{4, api.Row{0, 2, -6, 6, -2, 0}},
		{7, api.Row{6, 0, -30, 30, 0, -6}},
		{9, api.Row{12, -20, 0, 0, 20, -12}},
		{14, api.Row{2, -6, 6, -2, 0, 0}},
	} {
		is(t, call("Row", a, r.pair), minor.Row(a, r.pair), r.want)
	}
}

// P10.1: each factor, of axes of all kinds and all pairs; without a pair all 0.
func TestP1Row(t *testing.T) {
	for _, a := range every() {
		place := 0
		for i := range 6 {
			for j := i + 1; j < 6; j++ {
				var four []int
				for n := range 6 {
					if n != i && n != j {
						four = append(four, n)
					}
				}
				p, q, r, s := a[four[0]], a[four[1]], a[four[2]], a[four[3]]
				var want api.Row
				want[four[0]] = det(q, r, s)
				want[four[1]] = -det(p, r, s)
				want[four[2]] = det(p, q, s)
				want[four[3]] = -det(p, q, r)
				is(t, call("Row", a, place), minor.Row(a, place), want)
				place++
			}
		}
		for _, pair := range []int{-1, 15, 16, 20, math.MaxInt, math.MinInt} {
			is(t, call("Row", a, pair), minor.Row(a, pair), api.Row{})
		}
	}
}

// P10.2: sizes add up, modulo 2^64; that of the least number is the greatest one.
func TestP2Weight(t *testing.T) {
	for _, r := range []struct {
		w    api.Row
		want int64
	}{
		{api.Row{}, 0},
		{api.Row{305, -815, 875, -540, 0, 0}, 2535},
		{api.Row{1, 2, 4, 8, 16, 32}, 63},
		{api.Row{-1, -2, -4, -8, -16, -32}, 63},
		{api.Row{least, 0, 0, 0, 0, 0}, greatest},
		{api.Row{0, 0, greatest, 1, 0, 0}, least},
		{api.Row{greatest, 0, 0, least, 0, -3}, 1},
	} {
		is(t, call("Weight", r.w), minor.Weight(r.w), r.want)
	}
	for _, w := range rows() {
		is(t, call("Weight", w), minor.Weight(w), weight(w))
	}
}

// P10.3: products add up, modulo 2^64, of the gyros' readings alone, There or not.
func TestP3Value(t *testing.T) {
	one := api.Row{1, 10, 100, 1000, 10000, 100000}
	is(t, call("Value"), minor.Value(one, api.Read{Value: [12]int64{1, 2, 3, 4, 5, 6, 7, 8, 9}}), 654321)
	is(t, call("Value"), minor.Value(one, api.Read{}), 0)
	is(t, call("Value"), minor.Value(api.Row{greatest, 0, 2}, api.Read{Value: [12]int64{2, 9, 1}}), 0)
	for _, w := range rows() {
		for _, r := range reads() {
			var l []*big.Int
			for n, factor := range w {
				l = append(l, product(factor, r.Value[n]))
			}
			is(t, call("Value", w, r), minor.Value(w, r), around(sum(l...)))
		}
	}
}

// eachThree calls f with all three numbers of -2 to 7, and with some that are far from the gyros'.
func eachThree(f func(three [3]int)) {
	for n := range 1000 {
		f([3]int{n/100 - 2, n/10%10 - 2, n%10 - 2})
	}
	for _, n := range noGyros() {
		for place := range 3 {
			three := [3]int{0, 1, 2}
			three[place] = n
			f(three)
		}
	}
}

// P10.4: who is no gyro is told ahead of what is flat; else the columns are the cross products of rows, in any order of them.
func TestP4Inverse(t *testing.T) {
	for _, a := range []axes{{}, cone, plane, corners, far, every()[6], every()[7], every()[20]} {
		eachThree(func(three [3]int) {
			var want api.Mat
			wantDet, wantErr := int64(0), api.OK
			for _, n := range three {
				if n < 0 || n > 5 {
					wantErr = api.ErrArg
				}
			}
			if wantErr == api.OK {
				x, y, z := a[three[0]], a[three[1]], a[three[2]]
				if wantDet = det(x, y, z); wantDet == 0 {
					wantErr = api.ErrFlat
				} else {
					for column, c := range []api.Vec{vec.Cross(y, z), vec.Cross(z, x), vec.Cross(x, y)} {
						for row := range c {
							want[row][column] = c[row]
						}
					}
				}
			}
			m, d, err := minor.Inverse(a, three)
			is(t, call("Inverse", a, three), m, want)
			is(t, call("Det of Inverse", a, three), d, wantDet)
			is(t, call("error of Inverse", a, three), err, wantErr)
		})
	}
}

// P10.4, of three numbers that are known.
func TestP4InverseByHand(t *testing.T) {
	a := axes{{2, 0, 0}, {0, 3, 0}, {0, 0, 5}, {1, 1, 0}}
	m, d, err := minor.Inverse(a, [3]int{0, 1, 2})
	is(t, call("Inverse"), m, api.Mat{{15, 0, 0}, {0, 10, 0}, {0, 0, 6}})
	is(t, call("Det of Inverse"), d, 30)
	is(t, call("error of Inverse"), err, api.OK)
	m, d, err = minor.Inverse(a, [3]int{1, 0, 2})
	is(t, call("Inverse"), m, api.Mat{{0, -15, 0}, {-10, 0, 0}, {0, 0, -6}})
	is(t, call("Det of Inverse"), d, -30)
	is(t, call("error of Inverse"), err, api.OK)
	m, d, err = minor.Inverse(a, [3]int{0, 1, 3})
	is(t, call("Inverse"), m, api.Mat{})
	is(t, call("Det of Inverse"), d, 0)
	is(t, call("error of Inverse"), err, api.ErrFlat)
}

// P10.5: one row, and 0 of what is no axis.
func TestP5Axis(t *testing.T) {
	m := api.Mat{{1, 2, 3}, {-4, 5, 0}, {greatest, least, 1}}
	for _, r := range []struct {
		axis int
		v    api.Vec
		want int64
	}{
		{0, api.Vec{1, 10, 100}, 321},
		{1, api.Vec{1, 10, 100}, 46},
		{2, api.Vec{0, 1, 0}, least},
		{2, api.Vec{2, 2, 7}, 5},
		{-1, api.Vec{1, 10, 100}, 0},
		{3, api.Vec{1, 10, 100}, 0},
		{math.MaxInt, api.Vec{1, 10, 100}, 0},
		{math.MinInt, api.Vec{1, 10, 100}, 0},
	} {
		is(t, call("Axis", r.axis, r.v), minor.Axis(m, r.axis, r.v), r.want)
	}
	for _, v := range rates() {
		for axis := -2; axis < 6; axis++ {
			want := int64(0)
			if axis >= 0 && axis < 3 {
				want = around(sum(product(m[axis][0], v[0]), product(m[axis][1], v[1]), product(m[axis][2], v[2])))
			}
			is(t, call("Axis", axis, v), minor.Axis(m, axis, v), want)
		}
	}
}

// P10.6: what divides all sizes; that of the least number is the greatest one.
func TestP6Common(t *testing.T) {
	for _, r := range []struct {
		w    api.Row
		want int64
	}{
		{api.Row{}, 0},
		{api.Row{305, -815, 875, -540, 0, 0}, 5},
		{api.Row{0, 0, 0, 0, 0, -7}, 7},
		{api.Row{-7, 0, 0, 0, 0, 0}, 7},
		{api.Row{12, -18, 30, 0, 42, 66}, 6},
		{api.Row{12, -18, 30, 0, 42, 65}, 1},
		{api.Row{least, 0, 0, 0, 0, 0}, greatest},
		{api.Row{least, 0, greatest, 0, 0, 0}, greatest},
		{api.Row{least, 7, 14, 0, 0, 0}, 7},
		{api.Row{least, 2, 4, 0, 0, 0}, 1},
		{api.Row{greatest, greatest, greatest, greatest, greatest, greatest}, greatest},
	} {
		is(t, call("Common", r.w), minor.Common(r.w), r.want)
	}
	for _, w := range rows() {
		is(t, call("Common", w), minor.Common(w), common(w))
	}
}

// P10.7: each factor by what is common, rounded toward 0; as it was, if that is 0.
func TestP7Reduced(t *testing.T) {
	for _, r := range []struct{ w, want api.Row }{
		{api.Row{}, api.Row{}},
		{api.Row{305, -815, 875, -540, 0, 0}, api.Row{61, -163, 175, -108, 0, 0}},
		{api.Row{0, 0, 0, 0, 0, -7}, api.Row{0, 0, 0, 0, 0, -1}},
		{api.Row{12, -18, 30, 0, 42, 65}, api.Row{12, -18, 30, 0, 42, 65}},
		{api.Row{least, 7, -14, 0, 0, 0}, api.Row{least / 7, 1, -2, 0, 0, 0}},
		{api.Row{least, greatest, -greatest, 0, 0, 0}, api.Row{-1, 1, -1, 0, 0, 0}},
		{api.Row{least, 1, 0, 0, 0, 0}, api.Row{least, 1, 0, 0, 0, 0}},
	} {
		is(t, call("Reduced", r.w), minor.Reduced(r.w), r.want)
	}
	for _, w := range rows() {
		want, c := w, common(w)
		for n, factor := range w {
			if c != 0 {
				want[n] = new(big.Int).Quo(big.NewInt(factor), big.NewInt(c)).Int64()
			}
		}
		is(t, call("Reduced", w), minor.Reduced(w), want)
	}
}

// P10.8: thousandths of the weight; 0 of nobody, of no weight, and without room.
func TestP8Gain(t *testing.T) {
	cone := api.Row{305, -815, 875, -540, 0, 0}
	for _, r := range []struct {
		w    api.Row
		i    int
		want int64
	}{
		{cone, 0, 120},
		{cone, 1, 321},
		{cone, 2, 345},
		{cone, 3, 213},
		{cone, 4, 0},
		{cone, 5, 0},
		{api.Row{}, 0, 0},
		{api.Row{0, 0, -1, 0, 0, 0}, 2, 1000},
		{api.Row{0, 0, 0, 0, 0, -9}, 5, 1000},
		{api.Row{1, 999, 0, 0, 0, 0}, 0, 1},
		{api.Row{1, 1000, 0, 0, 0, 0}, 0, 0},
		{api.Row{least, 0, 0, 0, 0, 0}, 0, 1000},
		{api.Row{greatest, 0, 0, 0, 0, 1}, 0, 0},
		{api.Row{greatest, least, 0, 0, 0, 2}, 0, 0},
		{api.Row{greatest, least, 0, 0, 0, 3}, 0, 0},
		{api.Row{greatest, least, 0, 0, 0, 3}, 5, 3000},
		{api.Row{greatest, least, 0, 0, 0, 1003}, 0, 9214157878975800006},
		{api.Row{greatest, least, 0, 0, 0, 1002}, 0, 9223372036854775807},
		{api.Row{greatest, least, 0, 0, 0, 1001}, 0, 0},
	} {
		is(t, call("Gain", r.w, r.i), minor.Gain(r.w, r.i), r.want)
	}
	for _, w := range rows() {
		for n, factor := range w {
			want := new(big.Int)
			if all := weight(w); all > 0 {
				want.Quo(product(1000, size(factor)), big.NewInt(all))
			}
			if !want.IsInt64() {
				want.SetInt64(0)
			}
			is(t, call("Gain", w, n), minor.Gain(w, n), want.Int64())
		}
		for _, n := range noGyros() {
			is(t, call("Gain", w, n), minor.Gain(w, n), 0)
		}
	}
}

// P10.9: the cross product of both axes, in the order of the gyros; nothing, if it is 0, or if they are not two gyros.
func TestP9Blind(t *testing.T) {
	for _, r := range []struct {
		axes axes
		i, j int
		want api.Vec
		ok   bool
	}{
		{cone, 0, 1, api.Vec{-45, -25, 90}, true},
		{cone, 1, 0, api.Vec{45, 25, -90}, true},
		{plane, 0, 1, api.Vec{}, false},
		{plane, 5, 4, api.Vec{}, false},
		{plane, 0, 5, api.Vec{0, 0, -15}, true},
		{axes{{1, 0, 0}, {0, 1, 0}}, 0, 1, api.Vec{0, 0, 1}, true},
		{axes{{0, 1, 0}, {0, 0, 1}}, 0, 1, api.Vec{1, 0, 0}, true},
		{axes{{0, 0, 1}, {1, 0, 0}}, 0, 1, api.Vec{0, 1, 0}, true},
		{axes{{1 << 32, 0, 0}, {0, 1 << 32, 0}}, 0, 1, api.Vec{}, false},
	} {
		v, ok := minor.Blind(r.axes, r.i, r.j)
		is(t, call("Blind", r.axes, r.i, r.j), v, r.want)
		is(t, call("whether Blind", r.axes, r.i, r.j), ok, r.ok)
	}
	for _, a := range every() {
		for i := -2; i < 9; i++ {
			for j := -2; j < 9; j++ {
				var want api.Vec
				if i != j && i >= 0 && i < 6 && j >= 0 && j < 6 {
					want = vec.Cross(a[i], a[j])
				}
				v, ok := minor.Blind(a, i, j)
				is(t, call("Blind", a, i, j), v, want)
				is(t, call("whether Blind", a, i, j), ok, want != api.Vec{})
			}
			for _, n := range noGyros() {
				v, ok := minor.Blind(a, i, n)
				is(t, call("Blind", a, i, n), v, api.Vec{})
				is(t, call("whether Blind", a, i, n), ok, false)
				v, ok = minor.Blind(a, n, i)
				is(t, call("Blind", a, n, i), v, api.Vec{})
				is(t, call("whether Blind", a, n, i), ok, false)
			}
		}
	}
}

// P10.10: what the axes read of a rate has no parity; what one of the four reads otherwise has.
func TestP10NoParity(t *testing.T) {
	for _, a := range every() {
		for _, rate := range rates() {
			for pair := range api.Pairs {
				w := minor.Row(a, pair)
				r := reading(a, rate)
				is(t, call("Value of Row", a, rate, pair), minor.Value(w, r), 0)
				for n := range w {
					off := r
					off.Value[n] += 3
					is(t, call("Value of Row, off", a, rate, pair, n), minor.Value(w, off), 3*w[n])
				}
			}
		}
	}
}

// P10.11: what three axes read of a rate makes the rate again, Det times.
func TestP11Again(t *testing.T) {
	for _, a := range every() {
		for _, three := range geom.Triples() {
			m, d, err := minor.Inverse(a, three)
			if err != api.OK {
				continue
			}
			for _, rate := range rates() {
				r := reading(a, rate)
				l := api.Vec{r.Value[three[0]], r.Value[three[1]], r.Value[three[2]]}
				for axis, x := range rate {
					is(t, call("Axis", a, three, rate, axis), minor.Axis(m, axis, l), around(product(x, d)))
				}
			}
		}
	}
}

// P10.12: what is reduced has nothing in common, and is as often less.
func TestP12Reduced(t *testing.T) {
	all := rows()
	for _, a := range every() {
		for pair := range api.Pairs {
			all = append(all, minor.Row(a, pair))
		}
	}
	for _, w := range all {
		whole := true
		for _, factor := range w {
			whole = whole && factor != least // its size is told as another number's
		}
		if !whole {
			continue
		}
		c, less := minor.Common(w), minor.Reduced(w)
		is(t, call("Common of Reduced", w), minor.Common(less), min(c, 1))
		for _, r := range reads() {
			is(t, call("Value of Reduced", w, r), minor.Value(less, r)*c, minor.Value(w, r))
		}
	}
}

// P10.13: neither gyro reads what both are blind to; whether a third one does is told by all three axes.
func TestP13Blind(t *testing.T) {
	for _, a := range every() {
		for place, pair := range geom.Pairs() {
			v, _ := minor.Blind(a, pair[0], pair[1])
			r := reading(a, v)
			is(t, call("reading of Blind", a, place), r.Value[pair[0]], 0)
			is(t, call("reading of Blind", a, place), r.Value[pair[1]], 0)
			for _, n := range geom.Rest(place) {
				is(t, call("reading of Blind", a, place, n), fixq.Abs(r.Value[n]), size(det(a[pair[0]], a[pair[1]], a[n])))
			}
		}
	}
}
