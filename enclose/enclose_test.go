package enclose_test

import (
	"fmt"
	"math"
	"math/big"
	"slices"
	"strings"
	"testing"

	"teetotum/api"
	"teetotum/config"
	"teetotum/enclose"
	"teetotum/geom"
	"teetotum/span"
)

const (
	greatest int64 = math.MaxInt64
	least    int64 = math.MinInt64
)

type axes = [6]api.Vec

// asked is a call, written out only where it is told.
type asked struct {
	name string
	args []any
}

func call(name string, args ...any) asked { return asked{name, args} }

func (a asked) String() string {
	var words []string
	for _, x := range a.args {
		words = append(words, fmt.Sprintf("%+v", x))
	}
	return a.name + " of " + strings.Join(words, ", ")
}

// is fails if got is not want.
func is[T comparable](t *testing.T, what asked, got, want T) {
	t.Helper()
	if got != want {
		t.Fatalf("%s: %+v, want %+v", what, got, want)
	}
}

// told is a box, and whether there is one.
type told struct {
	b  api.Box
	is bool
}

func triple(c api.Config, t [3]int, r api.Read) told {
	b, is := enclose.Triple(c, t, r)
	return told{b, is}
}

func box(c api.Config, trusted int, r api.Read) told {
	b, is := enclose.Box(c, trusted, r)
	return told{b, is}
}

func slab(c api.Config, b api.Box, i int, value int64) told {
	some, is := enclose.Slab(c, b, i, value)
	return told{some, is}
}

func contract(c api.Config, trusted int, r api.Read, rounds int) told {
	b, is := enclose.Contract(c, trusted, r, rounds)
	return told{b, is}
}

// noGyros are numbers that no gyro has, some of them of other sources.
var noGyros = []int{math.MinInt, -1 << 32, -6, -1, 6, 7, 11, 12, 64, 1 << 32, math.MaxInt}

// noAxes are numbers that no axis has.
var noAxes = []int{math.MinInt, -1 << 32, -3, -1, 3, 4, 5, 6, 1 << 32, math.MaxInt}

// others are bits of a set that say nothing.
var others = []int{0, 64, 1 << 20, math.MinInt, -64}

// cone are geom's axes, written out.
var cone = axes{{10, 0, 5}, {5, 9, 5}, {-5, 9, 6}, {-10, 1, 5}, {-5, -9, 5}, {6, -9, 5}}

// plain are axes that are easily reckoned with: the last two have one direction.
var plain = axes{{1, 0, 0}, {0, 1, 0}, {0, 0, 1}, {2, 0, 0}, {1, 1, 1}, {-3, -3, -3}}

// plane are six axes in one plane: no three of them tell anything.
var plane = axes{{1, 2, 0}, {-2, -4, 0}, {3, 1, 0}, {0, 5, 0}, {7, -1, 0}, {7, -1, 0}}

// corners are axes with entries as great as they may be.
var corners = axes{{30, 0, 0}, {0, 30, 0}, {0, 0, 30}, {30, 30, 30}, {30, -30, 29}, {-30, 10, 20}}

// powers are axes 1, n, n n.
var powers = axes{{1, 0, 0}, {1, 1, 1}, {1, 2, 4}, {1, 3, 9}, {1, 4, 16}, {1, 5, 25}}

// far are axes with entries at the ends of the room.
var far = axes{{greatest, least, 1}, {1, greatest, 2}, {3, 1, least}, {least, least, 5}, {7, 11, 13}, {greatest, 1, 1}}

// turning are axes of which three make the least number as determinant.
var turning = axes{{1 << 21, 0, 0}, {0, 1 << 21, 0}, {0, 0, 1 << 21}, {1, 1 << 21, 1}, {1 << 22, 3, 1}, {1, 1, 1 << 22}}

// mixed are axes whose entries are no greater than they may be, other ones of each seed.
func mixed(seed int64) axes {
	var a axes
	for i := range a {
		for k := range a[i] {
			at := seed + 7*int64(i) + 3*int64(k)
			a[i][k] = (at*at*(seed+11)+at*37+5)%61 - 30
		}
	}
	return a
}

// may are axes whose entries are no greater than they may be: of some three lie in one plane.
func may() []axes {
	l := []axes{{}, cone, plain, plane, corners, powers}
	for seed := range int64(12) {
		l = append(l, mixed(seed))
	}
	return l
}

// right are those of may that are right.
func right() []axes {
	return slices.DeleteFunc(may(), func(a axes) bool { return geom.Right(a) != api.OK })
}

// every are axes of all kinds.
func every() []axes { return append(may(), far, turning) }

// known is a configuration of which just axes, Eps and Rate are known.
func known(a axes, eps, rate int64) api.Config { return api.Config{Axes: a, Eps: eps, Rate: rate} }

// numbers are edges: 0, the ends of the program's own limits, the roots of the room, and its ends.
func numbers() []int64 {
	l := []int64{0, 1, 2, 3, 1 << 20, api.MaxRead, 1<<31 - 1, 1 << 32, 3037000500, 1 << 62, greatest - 1, greatest}
	for _, x := range l[1:] {
		l = append(l, -x)
	}
	return append(l, least)
}

func of(lo, hi int64) api.Span { return api.Span{Lo: lo, Hi: hi} }

// none is the empty span, as it is answered.
var none = of(1, 0)

// all is the span of all numbers.
var all = of(least, greatest)

// cube is the box from lo to hi in each axis.
func cube(lo, hi int64) api.Box { return api.Box{of(lo, hi), of(lo, hi), of(lo, hi)} }

// allThere are readings of every source.
func allThere(value [12]int64) api.Read {
	r := api.Read{Value: value}
	for i := range r.There {
		r.There[i] = true
	}
	return r
}

// only is r with just those readings There whose bits the set has.
func only(r api.Read, set int) api.Read {
	for i := range r.There {
		r.There[i] = set>>i&1 == 1
	}
	return r
}

// reading is what the axes read of a rate, each off by its own.
func reading(a axes, rate api.Vec, off [6]int64) api.Read {
	var value [12]int64
	for n, axis := range a {
		value[n] = axis[0]*rate[0] + axis[1]*rate[1] + axis[2]*rate[2] + off[n]
	}
	return allThere(value)
}

// reads are readings near 0, as great as they may be, and at the ends of the room, all There.
func reads() []api.Read {
	l := []api.Read{
		allThere([12]int64{}),
		allThere([12]int64{1, 2, 3, 4, 5, 6, 7, 8, 9, 10, 11, 12}),
		allThere([12]int64{100, -250, 331, 17, -90, 5}),
		allThere([12]int64{greatest, greatest, greatest, greatest, greatest, greatest, 5}),
		allThere([12]int64{least, least, least, least, least, least, 5}),
		allThere([12]int64{api.MaxRead, -api.MaxRead, api.MaxRead, -api.MaxRead, api.MaxRead, -api.MaxRead, 5}),
	}
	n := numbers()
	for i := range n {
		var value [12]int64
		for k := range value {
			value[k] = n[(3*i+5*k+k*k)%len(n)]
		}
		l = append(l, allThere(value))
	}
	return l
}

// rates are rates near 0, and as great as they may be.
func rates() []api.Vec {
	return []api.Vec{
		{}, {1, 0, 0}, {0, 0, -1}, {-3, 5, 7}, {1000, -2000, 300},
		{api.MaxRate, -api.MaxRate, api.MaxRate}, {-api.MaxRate, 0, api.MaxRate},
	}
}

// offs are what six readings may be off by at most: all as far as may be, either way, and less.
func offs(eps int64) [][6]int64 {
	var l [][6]int64
	by := []int64{-eps, eps, 0, eps / 2, -eps / 3}
	for n := range 64 {
		l = append(l, [6]int64{by[n&1], by[n>>1&1], by[n>>2&1], by[n>>3&1], by[n>>4&1], by[n>>5&1]})
	}
	for n := range 25 {
		l = append(l, [6]int64{by[n%5], by[n/5], by[(n+2)%5], by[(n/5+n)%5], by[(3*n+1)%5], by[(n/5+3)%5]})
	}
	return l
}

// triples are all three gyros of six, rising, in order.
func triples() [][3]int {
	var l [][3]int
	for i := range 6 {
		for j := i + 1; j < 6; j++ {
			for k := j + 1; k < 6; k++ {
				l = append(l, [3]int{i, j, k})
			}
		}
	}
	return l
}

// orders are all three of the sources' numbers, in any order, also the same more than once.
func orders() [][3]int {
	var l [][3]int
	for n := range 8 * 8 * 8 {
		l = append(l, [3]int{n/64 - 1, n/8%8 - 1, n%8 - 1})
	}
	return l
}

// holds is whether all of the triple are in the set.
func holds(set int, t [3]int) bool {
	return set>>t[0]&(set>>t[1])&(set>>t[2])&1 == 1
}

// turned is x modulo 2^64, as a number with a sign.
func turned(x *big.Int) int64 {
	turn := new(big.Int).Lsh(big.NewInt(1), 64)
	return int64(new(big.Int).Mod(x, turn).Uint64())
}

// held is x, or the end of the room that it is beyond.
func held(x *big.Int) int64 {
	switch {
	case x.IsInt64():
		return x.Int64()
	case x.Sign() < 0:
		return least
	default:
		return greatest
	}
}

func sum(a, b int64) *big.Int { return new(big.Int).Add(big.NewInt(a), big.NewInt(b)) }

func less(a, b int64) *big.Int { return new(big.Int).Sub(big.NewInt(a), big.NewInt(b)) }

func product(a, b int64) *big.Int { return new(big.Int).Mul(big.NewInt(a), big.NewInt(b)) }

// size is fixq.Abs.
func size(x int64) int64 { return held(new(big.Int).Abs(big.NewInt(x))) }

// minus is p q less s u, modulo 2^64.
func minus(p, q, s, u int64) int64 {
	return turned(new(big.Int).Sub(product(p, q), product(s, u)))
}

// inverse is what makes of three readings the rate, det times, and det, by nine determinants of two by two.
func inverse(a axes, t [3]int) (api.Mat, int64) {
	p, q, s := a[t[0]], a[t[1]], a[t[2]]
	var m api.Mat
	for axis := range 3 {
		u, v := (axis+1)%3, (axis+2)%3
		m[axis] = api.Vec{minus(q[u], s[v], q[v], s[u]), minus(s[u], p[v], s[v], p[u]), minus(p[u], q[v], p[v], q[u])}
	}
	return m, dot(p, api.Vec{m[0][0], m[1][0], m[2][0]})
}

// dot is the dot product, modulo 2^64.
func dot(a, b api.Vec) int64 {
	all := new(big.Int)
	for k := range a {
		all.Add(all, product(a[k], b[k]))
	}
	return turned(all)
}

// width is Eps times the sizes of the factors, modulo 2^64.
func width(eps int64, l api.Vec) int64 {
	all := new(big.Int)
	for _, factor := range l {
		all.Add(all, big.NewInt(size(factor)))
	}
	return turned(all.Mul(all, big.NewInt(eps)))
}

// rounded is a by d, rounded down, or up.
func rounded(a, d int64, up bool) int64 {
	q, left := new(big.Int).DivMod(big.NewInt(a), big.NewInt(d), new(big.Int)) // d is above 0: so this rounds down
	if up && left.Sign() != 0 {
		q.Add(q, big.NewInt(1))
	}
	return q.Int64()
}

// part is from the lower end of a by d, rounded up, to the upper one, rounded down.
func part(a api.Span, d int64) api.Span {
	switch {
	case d < 0 && a.Hi < a.Lo:
		a = none
	case d < 0:
		a = of(held(new(big.Int).Neg(big.NewInt(a.Hi))), held(new(big.Int).Neg(big.NewInt(a.Lo))))
	}
	return of(rounded(a.Lo, size(d), true), rounded(a.Hi, size(d), false))
}

// met is what both have.
func met(a, b api.Span) api.Span {
	lo, hi := max(a.Lo, b.Lo), min(a.Hi, b.Hi)
	if hi < lo {
		return none
	}
	return of(lo, hi)
}

func isGyro(n int) bool { return n >= 0 && n < 6 }

// wantTriple is Triple by the chapter's words.
func wantTriple(c api.Config, t [3]int, r api.Read) told {
	for _, n := range t {
		if !isGyro(n) || !r.There[n] {
			return told{}
		}
	}
	m, det := inverse(c.Axes, t)
	if det == 0 {
		return told{}
	}
	var b api.Box
	for axis := range b {
		mid := dot(m[axis], api.Vec{r.Value[t[0]], r.Value[t[1]], r.Value[t[2]]})
		by := width(c.Eps, m[axis])
		b[axis] = part(of(turned(less(mid, by)), turned(sum(mid, by))), det)
	}
	return told{b, true}
}

// wantBox is Box by the chapter's words.
func wantBox(c api.Config, trusted int, r api.Read) told {
	b := cube(turned(less(0, c.Rate)), c.Rate)
	for _, t := range triples() {
		if !holds(trusted, t) {
			continue
		}
		some := wantTriple(c, t, r)
		for axis := range b {
			if some.is {
				b[axis] = met(b[axis], some.b[axis])
			}
		}
	}
	for _, a := range b {
		if a.Hi < a.Lo {
			return told{}
		}
	}
	return told{b, true}
}

// scaled is from the lesser to the greater product of both ends with k, each held.
func scaled(a api.Span, k int64) api.Span {
	if a.Hi < a.Lo {
		return none
	}
	p, q := held(product(a.Lo, k)), held(product(a.Hi, k))
	return of(min(p, q), max(p, q))
}

// taken is where a number of a less one of b is, held.
func taken(a, b api.Span) api.Span {
	if a.Hi < a.Lo || b.Hi < b.Lo {
		return none
	}
	return of(held(less(a.Lo, b.Hi)), held(less(a.Hi, b.Lo)))
}

// wantSlab is Slab by the chapter's words.
func wantSlab(c api.Config, b api.Box, i int, value int64) told {
	if !isGyro(i) {
		return told{b, true}
	}
	a, by := c.Axes[i], max(c.Eps, 0)
	for axis := range 3 {
		left := of(held(less(value, by)), held(sum(value, by)))
		for other := range 3 {
			if other != axis {
				left = taken(left, scaled(b[other], a[other]))
			}
		}
		switch {
		case a[axis] == 0 && (left.Lo > 0 || left.Hi < 0):
			return told{}
		case a[axis] != 0:
			b[axis] = met(b[axis], part(left, a[axis]))
			if b[axis] == none {
				return told{}
			}
		}
	}
	return told{b, true}
}

// wantContract is Contract by the chapter's words.
func wantContract(c api.Config, trusted int, r api.Read, rounds int) told {
	some := wantBox(c, trusted, r)
	for range min(max(rounds, 0), 20) {
		for i := range 6 {
			if some.is && trusted>>i&1 == 1 && r.There[i] {
				some = wantSlab(c, some.b, i, r.Value[i])
			}
		}
	}
	return some
}

// within is whether all of a is in b, if there is an a.
func within(a, b told) bool {
	if !a.is {
		return true
	}
	for axis := range a.b {
		if a.b[axis].Lo < b.b[axis].Lo || a.b[axis].Hi > b.b[axis].Hi {
			return false
		}
	}
	return b.is
}

// P24.1: as far as Rate either way, also where that is not right.
func TestP1Whole(t *testing.T) {
	is(t, call("Whole of the usual one"), enclose.Whole(config.Usual()), cube(-4000, 4000))
	is(t, call("Whole of nothing"), enclose.Whole(api.Config{}), cube(0, 0))
	for _, rate := range numbers() {
		is(t, call("Whole", rate), enclose.Whole(known(cone, 3, rate)), cube(turned(less(0, rate)), rate))
	}
}

// P24.3: by hand; nothing of what is no axis.
func TestP3WidthByHand(t *testing.T) {
	m := api.Mat{{1, -2, 3}, {0, 0, 0}, {-400, 50, 6}}
	for _, c := range []struct {
		m    api.Mat
		eps  int64
		axis int
		want int64
	}{
		{m, 1, 0, 6},
		{m, 5, 0, 30},
		{m, 5, 1, 0},
		{m, 5, 2, 2280},
		{m, 0, 2, 0},
		{m, -5, 2, -2280},
		{api.Mat{{least, 0, 0}}, 1, 0, greatest},
		{api.Mat{{greatest, -1, 0}}, 1, 0, least},
		{api.Mat{{greatest, greatest, greatest}}, 1, 0, greatest - 2},
		{api.Mat{{1 << 32, 0, 0}}, 1 << 32, 0, 0},
		{api.Mat{{1 << 31, 0, 0}}, 1 << 32, 0, least},
	} {
		is(t, call("Width", c.m, c.eps, c.axis), enclose.Width(known(axes{}, c.eps, 9), c.m, c.axis), c.want)
	}
	for _, axis := range noAxes {
		is(t, call("Width", m, axis), enclose.Width(config.Usual(), m, axis), 0)
	}
}

// P24.3, of rows of all kinds.
func TestP3Width(t *testing.T) {
	for _, a := range every() {
		m := api.Mat{a[0], a[3], a[5]}
		for _, eps := range numbers() {
			for axis := range 3 {
				is(t, call("Width", m, eps, axis), enclose.Width(known(a, eps, 9), m, axis), width(eps, m[axis]))
			}
		}
	}
}

// P24.2: by hand: in any order, with a determinant on either side of 0, and where no whole number fits.
func TestP2TripleByHand(t *testing.T) {
	r := allThere([12]int64{10, 20, -30, 21, 5, -15, 77, 78})
	for _, c := range []struct {
		a    axes
		eps  int64
		t    [3]int
		want told
	}{
		{plain, 0, [3]int{0, 1, 2}, told{api.Box{of(10, 10), of(20, 20), of(-30, -30)}, true}},
		{plain, 4, [3]int{0, 1, 2}, told{api.Box{of(6, 14), of(16, 24), of(-34, -26)}, true}},
		{plain, 4, [3]int{1, 0, 2}, told{api.Box{of(6, 14), of(16, 24), of(-34, -26)}, true}},
		{plain, 4, [3]int{2, 0, 1}, told{api.Box{of(6, 14), of(16, 24), of(-34, -26)}, true}},
		{plain, 4, [3]int{3, 1, 2}, told{api.Box{of(9, 12), of(16, 24), of(-34, -26)}, true}},
		{plain, 4, [3]int{2, 1, 3}, told{api.Box{of(9, 12), of(16, 24), of(-34, -26)}, true}},
		{plain, 0, [3]int{3, 1, 2}, told{api.Box{of(11, 10), of(20, 20), of(-30, -30)}, true}},
		{plain, 0, [3]int{1, 3, 2}, told{api.Box{of(11, 10), of(20, 20), of(-30, -30)}, true}},
		{plain, 2, [3]int{0, 1, 4}, told{api.Box{of(8, 12), of(18, 22), of(-31, -19)}, true}},
		{plain, 2, [3]int{0, 1, 5}, told{api.Box{of(8, 12), of(18, 22), of(-29, -21)}, true}},
		{plain, 1, [3]int{5, 1, 0}, told{api.Box{of(9, 11), of(19, 21), of(-27, -23)}, true}},
		{plain, 2, [3]int{0, 3, 1}, told{}},
		{plain, 2, [3]int{0, 0, 1}, told{}},
		{plain, 2, [3]int{0, 1, 6}, told{}},
		{plain, 2, [3]int{-1, 1, 2}, told{}},
		{plane, 2, [3]int{0, 2, 4}, told{}},
	} {
		is(t, call("Triple", c.a, c.eps, c.t), triple(known(c.a, c.eps, 1), c.t, r), c.want)
	}
}

// P24.2: all threes of numbers from -1 to 6, and of others.
func TestP2Orders(t *testing.T) {
	r := reading(cone, api.Vec{-300, 45, 77}, [6]int64{3, -2, 1, -3, 2, -1})
	for _, a := range []axes{cone, plain, powers} {
		for _, o := range orders() {
			is(t, call("Triple", a, o), triple(known(a, 3, 4000), o, r), wantTriple(known(a, 3, 4000), o, r))
		}
	}
	for _, n := range noGyros {
		for _, o := range [][3]int{{n, 1, 2}, {0, n, 2}, {0, 1, n}, {n, n, n}} {
			is(t, call("Triple", o), triple(known(plain, 3, 4000), o, r), told{})
		}
	}
}

// P24.2: there is one just if the three read, whoever else does.
func TestP2There(t *testing.T) {
	c := config.Usual()
	for _, r := range []api.Read{reads()[1], reads()[2], reads()[5]} {
		for set := range 1 << 7 {
			some := only(r, set)
			for _, o := range triples() {
				want := told{}
				if holds(set, o) {
					want = wantTriple(c, o, r)
				}
				is(t, call("Triple", o, some), triple(c, o, some), want)
			}
		}
	}
}

// P24.2, of axes, Eps and readings of all kinds.
func TestP2Triple(t *testing.T) {
	n := numbers()
	for k, a := range every() {
		for j, o := range triples() {
			for i, r := range reads() {
				for _, eps := range []int64{0, 3, -1, n[(i+j+k)%len(n)]} {
					c := known(a, eps, 4000)
					p := [3]int{o[1], o[0], o[2]}
					is(t, call("Triple", a, eps, o, r), triple(c, o, r), wantTriple(c, o, r))
					is(t, call("Triple", a, eps, p, r), triple(c, p, r), wantTriple(c, p, r))
				}
			}
		}
	}
}

// P24.2: just those whole numbers are in it that, times the determinant, are not farther than Width from what the readings make.
func TestP2Whole(t *testing.T) {
	r := allThere([12]int64{1, -7, 12, 30, -41, 5})
	for _, a := range right() {
		for _, o := range orders() {
			for _, eps := range []int64{0, 1, 5} {
				got := triple(known(a, eps, 4000), o, r)
				if !got.is {
					continue
				}
				m, det := inverse(a, o)
				for axis := range 3 {
					mid := dot(m[axis], api.Vec{r.Value[o[0]], r.Value[o[1]], r.Value[o[2]]})
					for x := mid/det - 3; x <= mid/det+3; x++ {
						want := size(x*det-mid) <= width(eps, m[axis])
						is(t, call("whether there is", x, a, eps, o, axis), span.Has(got.b[axis], x), want)
					}
				}
			}
		}
	}
}

// P24.4: by hand.
func TestP4BoxByHand(t *testing.T) {
	r := allThere([12]int64{10, 20, -30, 24, 5, -15})
	for _, c := range []struct {
		eps, rate int64
		trusted   int
		want      told
	}{
		{3, 100, 0, told{cube(-100, 100), true}},
		{3, 100, 3, told{cube(-100, 100), true}},
		{3, 100, 11, told{cube(-100, 100), true}}, // 0, 1 and 3 lie in one plane
		{3, 100, 7, told{api.Box{of(7, 13), of(17, 23), of(-33, -27)}, true}},
		{3, 100, 7 | 64, told{api.Box{of(7, 13), of(17, 23), of(-33, -27)}, true}},
		{3, 100, 15, told{api.Box{of(11, 13), of(17, 23), of(-33, -27)}, true}},
		{3, 30, 15, told{api.Box{of(11, 13), of(17, 23), of(-30, -27)}, true}},
		{3, 27, 15, told{api.Box{of(11, 13), of(17, 23), of(-27, -27)}, true}},
		{3, 26, 15, told{}},
		{1, 100, 15, told{}}, // 9 to 11 by 0, and 12 by 3
		{1, 100, 14, told{api.Box{of(12, 12), of(19, 21), of(-31, -29)}, true}},
		{0, 0, 0, told{cube(0, 0), true}},
		{0, -1, 0, told{}},
	} {
		is(t, call("Box", c.eps, c.rate, c.trusted), box(known(plain, c.eps, c.rate), c.trusted, r), c.want)
	}
}

// P24.4: all sets of who is trusted, and of who reads; other bits say nothing.
func TestP4Sets(t *testing.T) {
	for k, off := range [][6]int64{{}, {3, -3, 2, 1, -1, 0}, {0, 0, 40, 0, 0, 0}} {
		c := config.Usual()
		r := reading(cone, api.Vec{-1500, 220, 4000}, off)
		for there := range 64 {
			for trusted := range 64 {
				some := only(r, there)
				want := wantBox(c, trusted, some)
				is(t, call("Box", trusted, off, there), box(c, trusted, some), want)
				is(t, call("Box", trusted, off, there), box(c, trusted|others[(k+there)%len(others)], some), want)
			}
		}
	}
}

// P24.4, of axes, Eps, rates and readings of all kinds.
func TestP4Box(t *testing.T) {
	n := numbers()
	for k, a := range every() {
		for i, r := range append(reads(), reading(a, api.Vec{9, -40, 77}, [6]int64{1, -1, 2, 0, -2, 1}), reading(a, api.Vec{}, [6]int64{})) {
			for _, set := range []int{0, 7, 63, 62, 55, 47, (11*i + 5*k) % 64} {
				for _, eps := range []int64{0, 2, 1 << 20, n[(i+k)%len(n)]} {
					for _, rate := range []int64{100, n[(3*i+k)%len(n)]} {
						c := known(a, eps, rate)
						is(t, call("Box", a, eps, rate, set, r), box(c, set, r), wantBox(c, set, r))
					}
				}
			}
		}
	}
}

// P24.5: each axis by its own; an empty one has nothing.
func TestP5Has(t *testing.T) {
	ends := api.Box{of(-1, 1), of(5, 7), of(-20, -20)}
	for x := int64(-3); x <= 3; x++ {
		for y := int64(3); y <= 9; y++ {
			for z := int64(-22); z <= -18; z++ {
				want := x >= -1 && x <= 1 && y >= 5 && y <= 7 && z == -20
				is(t, call("Has", ends, x, y, z), enclose.Has(ends, api.Vec{x, y, z}), want)
			}
		}
	}
	for axis := range 3 {
		b := cube(-9, 9)
		b[axis] = of(2, 1)
		for x := int64(0); x < 4; x++ {
			is(t, call("Has", b, x), enclose.Has(b, api.Vec{x, x, x}), false)
		}
	}
	for _, x := range numbers() {
		is(t, call("Has of all", x), enclose.Has(api.Box{all, all, all}, api.Vec{x, least, greatest}), true)
		is(t, call("Has of one", x), enclose.Has(cube(x, x), api.Vec{x, x, x}), true)
	}
}

// P24.6: rounded down, also where the sum of both ends has no room.
func TestP6Center(t *testing.T) {
	is(t, call("Center"), enclose.Center(api.Box{of(1, 5), of(-4, 1), of(9, 9)}), api.Vec{3, -2, 9})
	is(t, call("Center"), enclose.Center(api.Box{all, of(greatest-1, greatest), of(least, least+1)}), api.Vec{-1, greatest - 1, least})
	for _, lo := range numbers() {
		for _, hi := range numbers() {
			both := sum(lo, hi)
			mid := both.Rsh(both, 1).Int64() // rounds down
			is(t, call("Center", lo, hi), enclose.Center(api.Box{of(lo, hi), of(3, 3), of(hi, lo)}), api.Vec{mid, 3, mid})
			is(t, call("Center", lo, hi), enclose.Center(api.Box{of(3, 3), of(lo, hi), of(4, 4)}), api.Vec{3, mid, 4})
		}
	}
}

// volume is how many rates there are in a box, held.
func volume(b api.Box) int64 {
	all := big.NewInt(1)
	for _, a := range b {
		if a.Hi < a.Lo {
			return 0
		}
		far := less(a.Hi, a.Lo)
		all.Mul(all, far.Add(far, big.NewInt(1)))
	}
	return held(all)
}

// P24.7: by hand, up to the greatest number.
func TestP7VolumeByHand(t *testing.T) {
	// 7 times 1317624576693539401 is the greatest number, and 49 times 188232082384791343 is, too.
	const seventh, rest = 1317624576693539401, 188232082384791343
	for _, c := range []struct {
		b    api.Box
		want int64
	}{
		{cube(0, 0), 1},
		{cube(1, 0), 0},
		{cube(-4, 5), 1000},
		{api.Box{of(1, 2), of(1, 3), of(-2, 2)}, 30},
		{api.Box{of(1, 2), of(1, 0), all}, 0},
		{api.Box{all, all, of(7, 5)}, 0},
		{api.Box{of(greatest, least), all, all}, 0},
		{api.Box{all, all, all}, greatest},
		{api.Box{all, of(3, 3), of(-3, -3)}, greatest},
		{api.Box{of(3, 3), of(-3, -3), all}, greatest},
		{api.Box{of(0, greatest), of(0, 0), of(0, 0)}, greatest},
		{api.Box{of(1, greatest), of(0, 0), of(0, 0)}, greatest},
		{api.Box{of(2, greatest), of(0, 0), of(0, 0)}, greatest - 1},
		{api.Box{of(-1, greatest-2), of(0, 0), of(0, 0)}, greatest},
		{api.Box{of(-1, greatest-3), of(0, 0), of(0, 0)}, greatest - 1},
		{api.Box{of(least, -2), of(0, 0), of(0, 0)}, greatest},
		{api.Box{of(least, -1), of(0, 0), of(0, 0)}, greatest},
		{api.Box{of(1, 7), of(1, seventh), of(0, 0)}, greatest},
		{api.Box{of(1, 7), of(2, seventh), of(0, 0)}, greatest - 7},
		{api.Box{of(1, 7), of(0, seventh), of(0, 0)}, greatest},
		{api.Box{of(1, 7), of(-3, 3), of(1, rest)}, greatest},
		{api.Box{of(1, 7), of(-3, 3), of(2, rest)}, greatest - 49},
		{api.Box{of(0, 1<<32-1), of(0, 1<<31-1), of(0, 0)}, greatest},
		{api.Box{of(0, 1<<32-1), of(0, 1<<31-2), of(0, 0)}, greatest - 1<<32 + 1},
		{api.Box{of(0, 1<<32-1), of(0, 1<<32-1), of(0, 1)}, greatest},
		{cube(-1<<20, 1<<20), greatest},
		{cube(-1<<20, 1<<20-1), greatest},
		{api.Box{of(-1<<20, 1<<20-1), of(-1<<20, 1<<20-2), of(-1<<20, 1<<20-1)}, greatest - 1<<42 + 1},
	} {
		is(t, call("Volume", c.b), enclose.Volume(c.b), c.want)
	}
}

// P24.7: of ends of all kinds, in any order of the axes.
func TestP7Volume(t *testing.T) {
	var spans []api.Span
	for _, lo := range numbers() {
		for _, hi := range numbers() {
			spans = append(spans, of(lo, hi))
		}
	}
	for i, a := range spans {
		for _, b := range []api.Span{of(0, 0), of(-1, 1), of(1, 0), spans[(7*i+3)%len(spans)]} {
			c := spans[(11*i+5)%len(spans)]
			for _, some := range []api.Box{{a, b, c}, {c, a, b}, {b, c, a}, {a, b, of(5, 5)}} {
				is(t, call("Volume", some), enclose.Volume(some), volume(some))
			}
		}
	}
}

// P24.8: the place's bits 0, 1 and 2 choose the ends of the axes 0, 1 and 2; also of an empty box, as its ends are.
func TestP8Corners(t *testing.T) {
	got := enclose.Corners(api.Box{of(1, 2), of(30, 40), of(500, 600)})
	want := [8]api.Vec{
		{1, 30, 500}, {2, 30, 500}, {1, 40, 500}, {2, 40, 500},
		{1, 30, 600}, {2, 30, 600}, {1, 40, 600}, {2, 40, 600},
	}
	is(t, call("Corners"), got, want)
	got = enclose.Corners(api.Box{all, of(5, -5), of(7, 7)})
	want = [8]api.Vec{
		{least, 5, 7}, {greatest, 5, 7}, {least, -5, 7}, {greatest, -5, 7},
		{least, 5, 7}, {greatest, 5, 7}, {least, -5, 7}, {greatest, -5, 7},
	}
	is(t, call("Corners"), got, want)
	is(t, call("Corners"), enclose.Corners(api.Box{}), [8]api.Vec{})
}

// P24.9: by hand: entries above, below and at 0, an axis told by those ahead of it as they are by then, and what leaves nothing.
func TestP9SlabByHand(t *testing.T) {
	const far = 1 << 40
	ten := cube(-10, 10)
	for _, c := range []struct {
		axis  api.Vec
		eps   int64
		b     api.Box
		value int64
		want  told
	}{
		{api.Vec{1, 0, 0}, 2, ten, 5, told{api.Box{of(3, 7), of(-10, 10), of(-10, 10)}, true}},
		{api.Vec{0, 0, -1}, 2, ten, 5, told{api.Box{of(-10, 10), of(-10, 10), of(-7, -3)}, true}},
		{api.Vec{0, 2, 0}, 2, ten, 5, told{api.Box{of(-10, 10), of(2, 3), of(-10, 10)}, true}},
		{api.Vec{0, -2, 0}, 2, ten, 5, told{api.Box{of(-10, 10), of(-3, -2), of(-10, 10)}, true}},
		{api.Vec{0, 4, 0}, 1, ten, 6, told{}},
		{api.Vec{0, 4, 0}, 2, ten, 6, told{api.Box{of(-10, 10), of(1, 2), of(-10, 10)}, true}},
		{api.Vec{0, 1, 0}, 2, ten, 12, told{api.Box{of(-10, 10), of(10, 10), of(-10, 10)}, true}},
		{api.Vec{0, 1, 0}, 2, ten, 13, told{}},
		{api.Vec{0, 1, 0}, 2, ten, -13, told{}},
		{api.Vec{1, 1, 0}, 0, ten, 15, told{api.Box{of(5, 10), of(5, 10), of(-10, 10)}, true}},
		{api.Vec{1, 1, 0}, 0, api.Box{of(-10, 10), of(-10, 10), of(9, 9)}, 20, told{api.Box{of(10, 10), of(10, 10), of(9, 9)}, true}},
		{api.Vec{1, 1, 0}, 0, ten, 21, told{}},
		{api.Vec{1, 2, 3}, 0, api.Box{of(0, 10), of(0, 10), of(0, 10)}, 6, told{api.Box{of(0, 6), of(0, 3), of(0, 2)}, true}},
		{api.Vec{1, 2, -3}, 1, api.Box{of(0, 2), of(0, 3), of(0, 10)}, -15, told{api.Box{of(0, 2), of(0, 3), of(5, 8)}, true}},
		{api.Vec{2, 2, 0}, 0, api.Box{of(0, 3), of(1, 1), of(4, 4)}, 5, told{}}, // the first one is 1.5
		{api.Vec{0, 0, 0}, 2, ten, 2, told{ten, true}},
		{api.Vec{0, 0, 0}, 2, ten, -2, told{ten, true}},
		{api.Vec{0, 0, 0}, 2, ten, 3, told{}},
		{api.Vec{0, 0, 0}, 2, ten, -3, told{}},
		{api.Vec{0, 1, 0}, -2, ten, 5, told{api.Box{of(-10, 10), of(5, 5), of(-10, 10)}, true}}, // Widen by what is below 0 is nothing
		{api.Vec{0, 1, 0}, 2, api.Box{all, all, all}, greatest, told{api.Box{all, of(greatest-2, greatest), all}, true}},
		{api.Vec{0, 1, 0}, 2, api.Box{all, all, all}, least, told{api.Box{all, of(least, least+2), all}, true}},
		{api.Vec{0, -1, 0}, 2, api.Box{all, all, all}, least, told{api.Box{all, of(greatest-1, greatest), all}, true}},                                  // the least number's opposite has no room
		{api.Vec{1, far, 0}, 0, api.Box{all, of(-far, far), of(0, 0)}, 0, told{api.Box{of(-greatest, greatest), of(1-1<<23, 1<<23-1), of(0, 0)}, true}}, // held at the ends of the room
		{api.Vec{1, 0, 0}, 2, api.Box{of(-10, 10), none, of(-10, 10)}, 5, told{}},
		{api.Vec{1, 0, 0}, 2, api.Box{of(6, 5), of(-10, 10), of(-10, 10)}, 5, told{}},
	} {
		a := axes{3: c.axis}
		is(t, call("Slab", c.axis, c.eps, c.b, c.value), slab(known(a, c.eps, 9), c.b, 3, c.value), c.want)
	}
}

// P24.9: of no gyro the box as it is, also where it is empty.
func TestP9NoGyro(t *testing.T) {
	for _, i := range noGyros {
		for _, b := range []api.Box{{}, cube(-5, 9), cube(1, 0), {of(7, 2), all, of(3, 3)}} {
			is(t, call("Slab", b, i), slab(config.Usual(), b, i, 1<<40), told{b, true})
		}
	}
}

// boxes are boxes near 0, as great as the rate may be, and at the ends of the room.
func boxes() []api.Box {
	l := []api.Box{cube(0, 0), cube(-10, 10), cube(-api.MaxRate, api.MaxRate), {of(-3, 20), of(7, 9), of(-100, -50)}, {all, all, all}, {all, of(5, 6), all}}
	n := numbers()
	for i := range n {
		var b api.Box
		for k := range b {
			p, q := n[(5*i+3*k)%len(n)], n[(7*i+11*k+k*k)%len(n)]
			b[k] = of(min(p, q), max(p, q))
		}
		l = append(l, b)
	}
	return append(l, api.Box{of(1, 0), of(-10, 10), of(-10, 10)}, api.Box{of(-10, 10), of(-10, 10), of(8, -8)})
}

// P24.9, of axes, Eps, boxes and readings of all kinds.
func TestP9Slab(t *testing.T) {
	n := numbers()
	l := append(every(), axes{{0, 1, 0}, {1, 0, -2}, {0, 0, 0}, {least, 0, 1}, {-1, 5, least}, {0, greatest, -1}})
	for k, a := range l {
		for j, b := range boxes() {
			for i := range 6 {
				for h, value := range append(n, -77, 12, 500) {
					for _, eps := range []int64{0, 3, n[(h+i+j+k)%len(n)]} {
						c := known(a, eps, 9)
						is(t, call("Slab", a, eps, b, i, value), slab(c, b, i, value), wantSlab(c, b, i, value))
					}
				}
			}
		}
	}
}

// P24.9: whatever rate of the box may make the gyro read so is left, and nothing that was not in the box.
func TestP9Left(t *testing.T) {
	b := api.Box{of(-3, 3), of(-2, 4), of(0, 5)}
	for x := int64(-3); x <= 3; x++ {
		for y := int64(-2); y <= 2; y++ {
			for z := int64(-4); z <= 4; z++ {
				for value := int64(-30); value <= 30; value += 3 {
					axis := api.Vec{x, y, z}
					got := slab(known(axes{axis}, 2, 9), b, 0, value)
					enclosed(t, call("Slab", axis, value), got, b, func(v api.Vec) bool { return size(dot(axis, v)-value) <= 2 })
				}
			}
		}
	}
}

// enclosed fails if one of the box's rates that may be is not in got, or got is not in the box.
func enclosed(t *testing.T, what asked, got told, b api.Box, may func(v api.Vec) bool) {
	t.Helper()
	for x := b[0].Lo; x <= b[0].Hi; x++ {
		for y := b[1].Lo; y <= b[1].Hi; y++ {
			for z := b[2].Lo; z <= b[2].Hi; z++ {
				v := api.Vec{x, y, z}
				if may(v) && !(got.is && enclose.Has(got.b, v)) {
					t.Fatalf("%s: %+v, without %d", what, got, v)
				}
			}
		}
	}
	if !within(got, told{b, true}) {
		t.Fatalf("%s: %+v, not in %+v", what, got, b)
	}
}

// two are axes of which 0 and 1 alone tell more round by round, without an end, and the others nothing.
var two = axes{{4, 5, 0}, {5, 6, 0}, {}, {}, {}, {}}

// P24.10: so many rounds, at least none, at most 20.
func TestP10Rounds(t *testing.T) {
	c, r := known(two, 0, api.MaxRate), allThere([12]int64{})
	is(t, call("Contract in no round"), contract(c, 3, r, 0), told{cube(-api.MaxRate, api.MaxRate), true})
	is(t, call("Contract in one"), contract(c, 3, r, 1), told{api.Box{of(-1006632, 1006632), of(-838860, 838860), of(-api.MaxRate, api.MaxRate)}, true})
	for rounds := range 20 {
		now, next := contract(c, 3, r, rounds), contract(c, 3, r, rounds+1)
		is(t, call("Contract in", rounds), now, wantContract(c, 3, r, rounds))
		if now == next {
			t.Fatalf("Contract in %d rounds, and in one more: both %+v", rounds, now)
		}
	}
	for _, rounds := range []int{20, 21, 22, 100, 1 << 32, math.MaxInt} {
		is(t, call("Contract in", rounds), contract(c, 3, r, rounds), wantContract(c, 3, r, 20))
	}
	for _, rounds := range []int{0, -1, -20, -1 << 32, math.MinInt} {
		is(t, call("Contract in", rounds), contract(c, 3, r, rounds), box(c, 3, r))
	}
}

// P24.10: who is not trusted, or does not read, tells nothing; of rounds that leave nothing there is no box.
func TestP10ContractByHand(t *testing.T) {
	r := allThere([12]int64{10, 20, -30, 24, 5, -15})
	c := known(plain, 3, 100)
	is(t, call("Contract of nobody"), contract(c, 0, r, 20), told{cube(-100, 100), true})
	is(t, call("Contract of one"), contract(c, 1, r, 1), told{api.Box{of(7, 13), of(-100, 100), of(-100, 100)}, true})
	is(t, call("Contract of one, and other bits"), contract(c, 1|64, r, 1), told{api.Box{of(7, 13), of(-100, 100), of(-100, 100)}, true})
	is(t, call("Contract of two"), contract(c, 9, r, 1), told{api.Box{of(11, 13), of(-100, 100), of(-100, 100)}, true})
	is(t, call("Contract of two, one of which reads"), contract(c, 9, only(r, 1<<9|1), 1), told{api.Box{of(7, 13), of(-100, 100), of(-100, 100)}, true})
	is(t, call("Contract of two that leave nothing"), contract(known(plain, 1, 100), 9, r, 1), told{})
	is(t, call("Contract of two that leave nothing, in no round"), contract(known(plain, 1, 100), 9, r, 0), told{cube(-100, 100), true})
	is(t, call("Contract of what has no Box"), contract(known(plain, 1, 100), 15, r, 5), told{})
	is(t, call("Contract of what has no Box, in no round"), contract(known(plain, 1, 100), 15, r, 0), told{})
}

// P24.10: all sets of who is trusted, and of who reads; other bits say nothing.
func TestP10Sets(t *testing.T) {
	for k, off := range [][6]int64{{3, -3, 2, 1, -1, 0}, {0, 0, 60, 0, 0, 0}, {0, 20, 0, 0, -20, 0}} {
		r := reading(powers, api.Vec{-1500, 220, 4000}, off)
		c := known(powers, 3, 4000)
		for there := range 64 {
			for trusted := range 64 {
				some, rounds := only(r, there), 1+(there+trusted)%3
				want := wantContract(c, trusted, some, rounds)
				is(t, call("Contract", trusted, off, there, rounds), contract(c, trusted|others[(k+there)%len(others)], some, rounds), want)
			}
		}
	}
}

// P24.10, of axes, Eps, rates and readings of all kinds.
func TestP10Contract(t *testing.T) {
	n := numbers()
	for k, a := range append(every(), two) {
		for i, r := range append(reads(), reading(a, api.Vec{9, -40, 77}, [6]int64{1, -1, 2, 0, -2, 1}), reading(a, api.Vec{}, [6]int64{})) {
			for _, set := range []int{3, 63, (11*i + 5*k) % 64} {
				for _, eps := range []int64{0, 2, n[(i+k)%len(n)]} {
					for _, rounds := range []int{1, 3} {
						c := known(a, eps, []int64{100, 4000, n[(3*i+k)%len(n)]}[(i+k)%3])
						is(t, call("Contract", a, eps, c.Rate, set, r, rounds), contract(c, set, r, rounds), wantContract(c, set, r, rounds))
					}
				}
			}
		}
	}
}

// P24.11, P24.14: readings that are off by at most Eps leave the rate, whatever those read who are not trusted, or not There.
func TestP11Rate(t *testing.T) {
	for k, a := range right() {
		for _, eps := range []int64{0, 1, 3, 1 << 20} {
			c := known(a, eps, api.MaxRate)
			for h, rate := range rates() {
				for n, off := range offs(eps) {
					set := (63 - n*(n%3) - 7*h*(k%2)) & 63
					r := reading(a, rate, off)
					for i := range 6 {
						if set>>i&1 == 0 {
							r.Value[i] = numbers()[(n+i)%len(numbers())]
						}
					}
					trusted := set
					if n%4 == 0 {
						r, trusted = only(r, set), 63
					}
					got := box(c, trusted, r)
					if !got.is || !enclose.Has(got.b, rate) {
						t.Fatalf("%s: %+v, without %d", call("Box", a, eps, trusted, r), got, rate)
					}
					got = contract(c, trusted, r, 1+n%5)
					if !got.is || !enclose.Has(got.b, rate) {
						t.Fatalf("%s: %+v, without %d", call("Contract", a, eps, trusted, r), got, rate)
					}
				}
			}
		}
	}
}

// P24.11: no box that is less would do: three off by Eps, each as its factor's sign is, are at the end just reached, and off by one more they are beyond it.
func TestP11JustReached(t *testing.T) {
	a := axes{{1, 0, 0}, {1, 1, 0}, {1, -1, 1}} // its determinant is 1: so each end is a rate
	for _, eps := range []int64{0, 1, 3, 1 << 20} {
		c := known(a, eps, api.MaxRate)
		m, _ := inverse(a, [3]int{0, 1, 2})
		rate := api.Vec{-3, 5, 7}
		for axis := range 3 {
			var off, more [6]int64
			for k, factor := range m[axis] {
				off[k], more[k] = eps*sign(factor), (eps+1)*sign(factor)
			}
			just, beyond := box(c, 7, reading(a, rate, off)), box(c, 7, reading(a, rate, more))
			is(t, call("the Lo of Box", eps, axis), just.b[axis].Lo, rate[axis])
			is(t, call("whether Box has", eps, axis), enclose.Has(beyond.b, rate), false)
		}
	}
}

// sign is -1, 0 or 1, as x is.
func sign(x int64) int64 {
	switch {
	case x < 0:
		return -1
	case x > 0:
		return 1
	}
	return 0
}

// P24.12: of all sets that have another one, with readings that fit, and that do not.
func TestP12Trusted(t *testing.T) {
	for _, a := range every() {
		for h, r := range []api.Read{
			reading(a, api.Vec{-300, 45, 77}, [6]int64{3, -2, 1, -3, 2, -1}),
			reading(a, api.Vec{-300, 45, 77}, [6]int64{3, -2, 1, -3, 2, 90}),
			only(reading(a, api.Vec{}, [6]int64{3, 3, 3, 3, 3, 3}), 61),
			reads()[2], reads()[7], reads()[11],
		} {
			c := known(a, 3, 400)
			for more := range 64 {
				wide := box(c, more, r)
				for fewer := range 64 {
					if fewer&^more == 0 && !within(wide, box(c, fewer, r)) {
						t.Fatalf("%s: more than of %d", call("Box", a, h, more), fewer)
					}
				}
			}
		}
	}
}

// P24.13: its center and its corners, whatever its ends are, if it is not empty.
func TestP13Center(t *testing.T) {
	n := numbers()
	for i := range n {
		for j := range n {
			var b api.Box
			for k := range b {
				p, q := n[(i+5*k)%len(n)], n[(j+7*k*k)%len(n)]
				b[k] = of(min(p, q), max(p, q))
			}
			is(t, call("whether it has its Center", b), enclose.Has(b, enclose.Center(b)), true)
			for place, v := range enclose.Corners(b) {
				is(t, call("whether it has its corner", b, place), enclose.Has(b, v), true)
			}
			is(t, call("whether it has a Volume", b), enclose.Volume(b) > 0, true)
		}
	}
}

// P24.14: contracted it is in the Box, and in what fewer rounds leave.
func TestP14Smaller(t *testing.T) {
	for _, a := range append(every(), two) {
		for h, r := range []api.Read{
			reading(a, api.Vec{-300, 45, 77}, [6]int64{3, -2, 1, -3, 2, -1}),
			reading(a, api.Vec{-300, 45, 77}, [6]int64{3, -2, 1, -3, 2, 90}),
			reads()[0], reads()[2], reads()[7], reads()[11],
		} {
			for _, trusted := range []int{3, 5, 15, 54, 63} {
				c := known(a, 3, 4000)
				last := box(c, trusted, r)
				for rounds := range 23 {
					next := contract(c, trusted, r, rounds)
					if !within(next, last) {
						t.Fatalf("%s: %+v, not in %+v", call("Contract", a, h, trusted, rounds), next, last)
					}
					last = next
				}
			}
		}
	}
}

// The chapter's example: two gyros alone tell no more than Whole.
func TestExample(t *testing.T) {
	c := config.Usual()
	for _, pair := range geom.Pairs() {
		for _, r := range reads() {
			is(t, call("Box", pair, r), box(c, 1<<pair[0]|1<<pair[1], r), told{enclose.Whole(c), true})
		}
	}
}

// Rules: the same calls again have the same answers, and what they are given stays.
func TestKept(t *testing.T) {
	c, r, b := config.Usual(), reading(cone, api.Vec{9, 8, -7}, [6]int64{1, -1, 3}), cube(-50, 50)
	kept, keptRead, keptBox := c, r, b
	first, slabs := contract(c, 63, r, 3), slab(c, b, 2, 40)
	is(t, call("Contract again"), contract(c, 63, r, 3), first)
	is(t, call("Slab again"), slab(c, b, 2, 40), slabs)
	is(t, call("the configuration"), c, kept)
	is(t, call("the readings"), r, keptRead)
	is(t, call("the box"), b, keptBox)
}
