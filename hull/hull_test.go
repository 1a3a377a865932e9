package hull_test

import (
	"fmt"
	"math"
	"math/big"
	"slices"
	"strings"
	"testing"

	"teetotum/api"
	"teetotum/bank"
	"teetotum/config"
	"teetotum/enclose"
	"teetotum/geom"
	"teetotum/hull"
	"teetotum/hypo"
)

const (
	greatest int64 = math.MaxInt64
	least    int64 = math.MinInt64
)

type axes = [6]api.Vec

// asked is a call, written out only where it is told.
type asked struct {
	name string
	args []any
}

func call(name string, args ...any) asked { return asked{name, args} }

func (a asked) String() string {
	var words []string
	for _, x := range a.args {
		words = append(words, fmt.Sprintf("%+v", x))
	}
	return a.name + " of " + strings.Join(words, ", ")
}

// is fails if got is not want.
func is[T comparable](t *testing.T, what asked, got, want T) {
	t.Helper()
	if got != want {
		t.Fatalf("%s: %+v, want %+v", what, got, want)
	}
}

// told is a box, and whether there is one.
type told struct {
	b  api.Box
	is bool
}

// boxes are those of all hypotheses.
type boxes [22]told

func each(c api.Config, alive [22]bool, r api.Read) boxes {
	b, is := hull.Each(c, alive, r)
	var l boxes
	for place := range l {
		l[place] = told{b[place], is[place]}
	}
	return l
}

func whole(c api.Config, alive [22]bool, r api.Read) told {
	b, is := hull.Of(c, alive, r)
	return told{b, is}
}

func tight(c api.Config, alive [22]bool, r api.Read, rounds int) told {
	b, is := hull.Tight(c, alive, r, rounds)
	return told{b, is}
}

// noAxes are numbers that no axis has.
var noAxes = []int{math.MinInt, -1 << 32, -3, -1, 3, 4, 5, 6, 1 << 32, math.MaxInt}

// others are bits of a set that say nothing.
var others = []int{0, 64, 1 << 20, math.MinInt, -64}

// who are the gyros of each hypothesis, in order.
var who = [22][]int{
	{},
	{0}, {1}, {2}, {3}, {4}, {5},
	{0, 1}, {0, 2}, {0, 3}, {0, 4}, {0, 5},
	{1, 2}, {1, 3}, {1, 4}, {1, 5},
	{2, 3}, {2, 4}, {2, 5},
	{3, 4}, {3, 5},
	{4, 5},
}

// set is gyros as a number's bits.
func set(gyros ...int) int {
	bits := 0
	for _, i := range gyros {
		bits |= 1 << i
	}
	return bits
}

// without are all six gyros but some, rising.
func without(some []int) []int {
	var l []int
	for i := range 6 {
		if !slices.Contains(some, i) {
			l = append(l, i)
		}
	}
	return l
}

// these has those hypotheses alive of just these gyros.
func these(some ...[]int) [22]bool {
	var alive [22]bool
	for place, gyros := range who {
		alive[place] = slices.ContainsFunc(some, func(h []int) bool { return slices.Equal(h, gyros) })
	}
	return alive
}

// only has those hypotheses alive whose places' bits are 1.
func only(bits int) [22]bool {
	var alive [22]bool
	for place := range alive {
		alive[place] = bits>>place&1 == 1
	}
	return alive
}

// places are those of all hypotheses, as bits.
const places = 1<<22 - 1

// all has all of them alive.
var all = only(places)

// lives are which ones may be alive: none, one, all, all but one, what tests leave, and any.
func lives() [][22]bool {
	l := [][22]bool{only(0), all}
	for place := range who {
		l = append(l, only(1<<place), only(places&^(1<<place)))
	}
	for n := 1; n < 1<<15; n += 997 {
		var b api.Bank
		for pair := range b.Refuted {
			b.Refuted[pair] = n>>pair&1 == 1
		}
		l = append(l, hypo.Alive(b, 0), hypo.Alive(b, 1<<(n%6)), only(n*n))
	}
	return l
}

// cone are geom's axes, written out.
var cone = axes{{10, 0, 5}, {5, 9, 5}, {-5, 9, 6}, {-10, 1, 5}, {-5, -9, 5}, {6, -9, 5}}

// double are three axes, each twice: a triple tells something just if it has one of each.
var double = axes{{1, 0, 0}, {0, 1, 0}, {0, 0, 1}, {1, 0, 0}, {0, 1, 0}, {0, 0, 1}}

// plane are six axes in one plane: no three of them tell anything.
var plane = axes{{1, 2, 0}, {-2, -4, 0}, {3, 1, 0}, {0, 5, 0}, {7, -1, 0}, {7, -1, 0}}

// corners are axes with entries as great as they may be.
var corners = axes{{30, 0, 0}, {0, 30, 0}, {0, 0, 30}, {30, 30, 30}, {30, -30, 29}, {-30, 10, 20}}

// powers are axes 1, n, n n.
var powers = axes{{1, 0, 0}, {1, 1, 1}, {1, 2, 4}, {1, 3, 9}, {1, 4, 16}, {1, 5, 25}}

// far are axes with entries at the ends of the room.
var far = axes{{greatest, least, 1}, {1, greatest, 2}, {3, 1, least}, {least, least, 5}, {7, 11, 13}, {greatest, 1, 1}}

// turning are axes of which three make the least number as determinant.
var turning = axes{{1 << 21, 0, 0}, {0, 1 << 21, 0}, {0, 0, 1 << 21}, {1, 1 << 21, 1}, {1 << 22, 3, 1}, {1, 1, 1 << 22}}

// mixed are axes whose entries are no greater than they may be, other ones of each seed.
func mixed(seed int64) axes {
	var a axes
	for i := range a {
		for k := range a[i] {
			at := seed + 7*int64(i) + 3*int64(k)
			a[i][k] = (at*at*(seed+11)+at*37+5)%61 - 30
		}
	}
	return a
}

// may are axes whose entries are no greater than they may be: of some three lie in one plane.
func may() []axes {
	l := []axes{{}, cone, double, plane, corners, powers}
	for seed := range int64(9) {
		l = append(l, mixed(seed))
	}
	return l
}

// right are those of may that are right.
func right() []axes {
	return slices.DeleteFunc(may(), func(a axes) bool { return geom.Right(a) != api.OK })
}

// every are axes of all kinds.
func every() []axes { return append(may(), far, turning) }

// known is a configuration of which just axes, Eps and Rate are known.
func known(a axes, eps, rate int64) api.Config { return api.Config{Axes: a, Eps: eps, Rate: rate} }

// numbers are edges: 0, the ends of the program's own limits, the roots of the room, and its ends.
func numbers() []int64 {
	l := []int64{0, 1, 2, 3, 1 << 20, api.MaxRead, 1<<31 - 1, 1 << 32, 3037000500, 1 << 62, greatest - 1, greatest}
	for _, x := range l[1:] {
		l = append(l, -x)
	}
	return append(l, least)
}

func of(lo, hi int64) api.Span { return api.Span{Lo: lo, Hi: hi} }

// none is the empty span, as it is answered.
var none = of(1, 0)

// cube is the box from lo to hi in each axis.
func cube(lo, hi int64) api.Box { return api.Box{of(lo, hi), of(lo, hi), of(lo, hi)} }

// allThere are readings of every source.
func allThere(value [12]int64) api.Read {
	r := api.Read{Value: value}
	for i := range r.There {
		r.There[i] = true
	}
	return r
}

// there is r with just those readings There whose bits the set has.
func there(r api.Read, set int) api.Read {
	for i := range r.There {
		r.There[i] = set>>i&1 == 1
	}
	return r
}

// reading is what the axes read of a rate, each off by its own.
func reading(a axes, rate api.Vec, off [6]int64) api.Read {
	var value [12]int64
	for n, axis := range a {
		value[n] = axis[0]*rate[0] + axis[1]*rate[1] + axis[2]*rate[2] + off[n]
	}
	return allThere(value)
}

// reads are readings of one rate, off in many ways, some that fit no rate, and some of which not all are There.
func reads(a axes) []api.Read {
	rate := api.Vec{-300, 45, 77}
	return []api.Read{
		reading(a, api.Vec{}, [6]int64{}),
		reading(a, rate, [6]int64{3, -2, 1, -3, 2, -1}),
		reading(a, rate, [6]int64{3, -2, 100, -3, 2, -1}),
		reading(a, rate, [6]int64{3, -2, 1, -300, 2, 150}),
		reading(a, rate, [6]int64{40, -60, 1, -300, 2, 150}),
		there(reading(a, rate, [6]int64{3, -2, 1, -3, 2, 90}), 0b111101),
		there(reading(a, rate, [6]int64{}), 0b010101),
		allThere([12]int64{1, 2, 3, 4, 5, 6, 7, 8, 9, 10, 11, 12}),
		allThere([12]int64{api.MaxRead, -api.MaxRead, api.MaxRead, -api.MaxRead, api.MaxRead, -api.MaxRead}),
		allThere([12]int64{greatest, least, greatest, least, greatest - 1, 0, 5}),
		{},
	}
}

// configs are configurations of all axes, with Eps and Rate of all kinds.
func configs() []api.Config {
	n := numbers()
	var l []api.Config
	for k, a := range every() {
		l = append(l, known(a, 3, 4000), known(a, 0, 300), known(a, n[(7*k+2)%len(n)], n[(11*k+5)%len(n)]))
	}
	return l
}

// turned is x modulo 2^64, as a number with a sign.
func turned(x *big.Int) int64 {
	turn := new(big.Int).Lsh(big.NewInt(1), 64)
	return int64(new(big.Int).Mod(x, turn).Uint64())
}

// held is x, or the end of the room that it is beyond.
func held(x *big.Int) int64 {
	switch {
	case x.IsInt64():
		return x.Int64()
	case x.Sign() < 0:
		return least
	default:
		return greatest
	}
}

func sum(a, b int64) *big.Int { return new(big.Int).Add(big.NewInt(a), big.NewInt(b)) }

func less(a, b int64) *big.Int { return new(big.Int).Sub(big.NewInt(a), big.NewInt(b)) }

func product(a, b int64) *big.Int { return new(big.Int).Mul(big.NewInt(a), big.NewInt(b)) }

func twice(x int64) int64 { return turned(product(2, x)) }

// size is fixq.Abs.
func size(x int64) int64 { return held(new(big.Int).Abs(big.NewInt(x))) }

// minus is p q less s u, modulo 2^64.
func minus(p, q, s, u int64) int64 {
	return turned(new(big.Int).Sub(product(p, q), product(s, u)))
}

// inverse is what makes of three readings the rate, det times, and det, by nine determinants of two by two.
func inverse(a axes, t []int) (api.Mat, int64) {
	p, q, s := a[t[0]], a[t[1]], a[t[2]]
	var m api.Mat
	for axis := range 3 {
		u, v := (axis+1)%3, (axis+2)%3
		m[axis] = api.Vec{minus(q[u], s[v], q[v], s[u]), minus(s[u], p[v], s[v], p[u]), minus(p[u], q[v], p[v], q[u])}
	}
	det := new(big.Int)
	for axis := range 3 {
		det.Add(det, product(p[axis], m[axis][0]))
	}
	return m, turned(det)
}

// best is the best width of some gyros: the least one of all three of them.
func best(c api.Config, some []int, axis int) int64 {
	width := twice(c.Rate)
	for n, i := range some {
		for k, j := range some[:n] {
			for _, h := range some[:k] {
				m, det := inverse(c.Axes, []int{h, j, i})
				if det == 0 {
					continue
				}
				factors := new(big.Int)
				for _, factor := range m[axis] {
					factors.Add(factors, big.NewInt(size(factor)))
				}
				wide := big.NewInt(twice(turned(factors.Mul(factors, big.NewInt(c.Eps)))))
				width = min(width, wide.Div(wide, big.NewInt(size(det))).Int64()) // above 0: so this rounds down
			}
		}
	}
	return width
}

// wantNarrow is Narrow by the chapter's words.
func wantNarrow(c api.Config, excluded []int, axis int) int64 {
	if axis < 0 || axis > 2 {
		return twice(c.Rate)
	}
	left := without(excluded)
	switch len(excluded) {
	case 2:
		return best(c, left, axis)
	case 1:
		var l []int64
		for n, i := range left {
			for _, j := range left[:n] {
				l = append(l, best(c, without([]int{excluded[0], i, j}), axis))
			}
		}
		return slices.Max(l)
	}
	return twice(c.Rate)
}

// wantEach is Each by the chapter's words, contracted in rounds.
func wantEach(c api.Config, alive [22]bool, r api.Read, rounds int) boxes {
	var l boxes
	for place, gyros := range who {
		if alive[place] {
			b, is := enclose.Contract(c, set(without(gyros)...), r, rounds)
			l[place] = told{b, is}
		}
	}
	return l
}

// wantWhole is the hull of boxes.
func wantWhole(l boxes) told {
	var some told
	for _, x := range l {
		if !x.is {
			continue
		}
		if !some.is {
			some = x
		}
		for axis, a := range x.b {
			some.b[axis] = of(min(some.b[axis].Lo, a.Lo), max(some.b[axis].Hi, a.Hi))
		}
	}
	return some
}

// within is whether all of a is in b, if there is an a.
func within(a, b told) bool {
	if !a.is {
		return true
	}
	for axis := range a.b {
		if a.b[axis].Lo < b.b[axis].Lo || a.b[axis].Hi > b.b[axis].Hi {
			return false
		}
	}
	return b.is
}

// P25.1: of all sets; other bits say nothing.
func TestP1Trusted(t *testing.T) {
	for _, c := range []struct{ hypothesis, want int }{
		{0, 63}, {1, 62}, {2, 61}, {3, 60}, {32, 31}, {48, 15}, {7, 56}, {63, 0}, {64, 63}, {-1, 0}, {math.MinInt, 63}, {math.MaxInt, 0},
	} {
		is(t, call("Trusted", c.hypothesis), hull.Trusted(c.hypothesis), c.want)
	}
	for hypothesis := range 64 {
		for _, other := range others {
			is(t, call("Trusted", hypothesis, other), hull.Trusted(hypothesis|other), 63-hypothesis)
		}
	}
	for _, gyros := range who {
		is(t, call("Trusted", gyros), hull.Trusted(set(gyros...)), set(without(gyros)...))
	}
}

// byHand is what each hypothesis allows of double and twoTold: x, y and z are told twice, the third time so that both can't be good.
var (
	byHand  = known(double, 3, 100)
	twoTold = allThere([12]int64{10, 20, 30, 14, 26, 38})

	x, x0, x3 = of(11, 13), of(11, 17), of(7, 13) // by both, without 0, without 3
	y, y1, y4 = of(23, 23), of(23, 29), of(17, 23)
	z2, z5    = of(35, 41), of(27, 33)
)

// ofTwoTold is Each of byHand and twoTold: of whom both of an axis are no more trusted it is not told at all.
var ofTwoTold = boxes{
	3:  {api.Box{x, y, z2}, true},
	6:  {api.Box{x, y, z5}, true},
	8:  {api.Box{x0, y, z2}, true},
	9:  {cube(-100, 100), true},
	11: {api.Box{x0, y, z5}, true},
	12: {api.Box{x, y1, z2}, true},
	14: {cube(-100, 100), true},
	15: {api.Box{x, y1, z5}, true},
	16: {api.Box{x3, y, z2}, true},
	17: {api.Box{x, y4, z2}, true},
	18: {cube(-100, 100), true},
	20: {api.Box{x3, y, z5}, true},
	21: {api.Box{x, y4, z5}, true},
}

// P25.2: by hand; of one that is not alive, or has no box, there is nothing.
func TestP2EachByHand(t *testing.T) {
	is(t, call("Each of all"), each(byHand, all, twoTold), ofTwoTold)
	is(t, call("Each of none"), each(byHand, [22]bool{}, twoTold), boxes{})
	for place := range who {
		var want boxes
		want[place] = ofTwoTold[place]
		is(t, call("Each of one", place), each(byHand, only(1<<place), twoTold), want)
	}
	some := ofTwoTold
	some[9], some[21] = told{}, told{}
	is(t, call("Each of all but two"), each(byHand, only(places&^(1<<9|1<<21)), twoTold), some)
	is(t, call("Each of no rate"), each(known(double, 3, -1), all, twoTold), boxes{})
	var nothing boxes
	for place := range nothing {
		nothing[place] = told{cube(-100, 100), true}
	}
	is(t, call("Each of no reading"), each(byHand, all, api.Read{}), nothing)
}

// P25.2, P25.3 and P25.5, of all that may be alive, and readings of all kinds.
func TestP2P3P5(t *testing.T) {
	for k, c := range configs() {
		for i, r := range reads(c.Axes) {
			l := lives()
			for n := (i + k) % 7; n < len(l); n += 7 {
				alive := l[n]
				want := wantEach(c, alive, r, 0)
				is(t, call("Each", c, alive, r), each(c, alive, r), want)
				is(t, call("Of", c, alive, r), whole(c, alive, r), wantWhole(want))
				var votes [6]int
				for place, some := range want {
					for _, gyro := range without(who[place]) {
						if some.is {
							votes[gyro]++
						}
					}
				}
				is(t, call("Votes", c, alive, r), hull.Votes(c, alive, r), votes)
			}
		}
	}
}

// P25.3: by hand: one alone, several, those with no box among them, and none.
func TestP3OfByHand(t *testing.T) {
	for place, want := range ofTwoTold {
		is(t, call("Of one", place), whole(byHand, only(1<<place), twoTold), want)
	}
	for _, c := range []struct {
		alive [22]bool
		want  told
	}{
		{these(), told{}},
		{these([]int{}, []int{0}, []int{1, 3}), told{}},
		{these([]int{2}, []int{5}), told{api.Box{x, y, of(27, 41)}, true}},
		{these([]int{0, 2}, []int{2, 3}), told{api.Box{of(7, 17), y, z2}, true}},
		{these([]int{}, []int{1, 2}, []int{2, 4}, []int{3, 4}), told{api.Box{x, of(17, 29), z2}, true}},
		{these([]int{2}, []int{0, 2}, []int{2, 3}, []int{4, 5}), told{api.Box{of(7, 17), y4, of(27, 41)}, true}},
		{these([]int{2}, []int{0, 3}), told{cube(-100, 100), true}},
		{all, told{cube(-100, 100), true}},
	} {
		is(t, call("Of", c.alive), whole(byHand, c.alive, twoTold), c.want)
	}
	is(t, call("Of no rate"), whole(known(double, 3, -1), all, twoTold), told{})
	is(t, call("Of no reading"), whole(byHand, all, api.Read{}), told{cube(-100, 100), true})
}

// P25.4: by hand: the least of four's triples, the greatest of five's, rounded down, those that tell nothing, and no more than twice Rate.
func TestP4NarrowByHand(t *testing.T) {
	// Of a the triple 0, 1, 2 has the determinant 27, and its factors are 9; that of 0, 1, 4 is 18, and z's factors are 3, 3 and 9.
	a := axes{{3, 0, 0}, {0, 3, 0}, {0, 0, 3}, {1, 1, 1}, {1, 1, 2}, {5, 0, 0}}
	// Of b the first axis is farthest off by 1, 2, 4: r4 - 2 r1 - 3 r2.
	b := axes{{1, 0, 0}, {0, 1, 0}, {0, 0, 1}, {1, 1, 1}, {1, 2, 3}, {9, 9, 9}}
	for _, c := range []struct {
		a              axes
		eps, rate      int64
		excluded, axis int
		want           int64
	}{
		{a, 5, 1000, 0, 0, 2000},
		{a, 5, 1000, set(4, 5), 0, 3}, // 2 5 9 / 27
		{a, 5, 1000, set(4, 5), 2, 3},
		{a, 5, 1000, set(2, 5), 0, 3},
		{a, 5, 1000, set(2, 5), 2, 8}, // 2 5 15 / 18
		{a, 5, 4, set(2, 5), 2, 8},
		{a, 5, 3, set(2, 5), 2, 6},
		{a, 0, 3, set(2, 5), 2, 0},
		{a, 5, 1000, set(2, 4), 2, 15}, // 1, 3, 5: 2 5 23 / 15; 0 and 5 have one direction
		{a, 5, 1000, set(2, 3, 4), 2, 2000},
		{a, 5, 1000, set(4), 0, 2000},
		{b, 5, 1000, set(5), 0, 60},
		{b, 5, 31, set(5), 0, 60},
		{b, 5, 20, set(5), 0, 40},
		{b, 5, 1000, set(4, 5), 0, 10},
		{b, 5, 1000, set(0, 5), 0, 25}, // 1, 3, 4: 3 r3 - r1 - r4, by 2
		{double, 3, 100, 0, 0, 200},
		{double, 3, 100, set(0), 0, 200},
		{double, 3, 100, set(0, 1), 0, 6},
		{double, 3, 100, set(0, 3), 0, 200}, // no three tell anything
		{double, 3, 100, set(0, 3), 1, 200},
		{double, 3, 2, set(0, 1), 0, 4},
		{double, 3, 100, set(0, 1) | 64, 0, 6},
		{double, 3, 100, 63, 0, 200},
		{double, 3, 100, math.MinInt, 0, 200},
		{plane, 3, 100, set(0, 1), 0, 200},
	} {
		is(t, call("Narrow", c.a, c.eps, c.rate, c.excluded, c.axis), hull.Narrow(known(c.a, c.eps, c.rate), c.excluded, c.axis), c.want)
	}
}

// P25.4, of all who may be excluded, of axes, Eps and rates of all kinds, modulo 2^64.
func TestP4Narrow(t *testing.T) {
	n := numbers()
	for k, a := range every() {
		for i, eps := range append(n, 5, 17, 1000) {
			for _, rate := range []int64{30, 4000, api.MaxRate, n[(5*i+k)%len(n)]} {
				c := known(a, eps, rate)
				for out := range 64 {
					excluded := slices.DeleteFunc([]int{0, 1, 2, 3, 4, 5}, func(g int) bool { return out>>g&1 == 0 })
					axis := (out + out/8 + i) % 3
					is(t, call("Narrow", c, out, axis), hull.Narrow(c, out|others[(i+k)%len(others)], axis), wantNarrow(c, excluded, axis))
				}
			}
		}
	}
}

// P25.4: the usual one, and of what is no axis.
func TestP4Axes(t *testing.T) {
	c := config.Usual()
	for _, excluded := range who {
		for axis := range 3 {
			is(t, call("Narrow", excluded, axis), hull.Narrow(c, set(excluded...), axis), wantNarrow(c, excluded, axis))
		}
		for _, axis := range noAxes {
			is(t, call("Narrow", excluded, axis), hull.Narrow(c, set(excluded...), axis), 8000)
			is(t, call("Narrow", excluded, axis), hull.Narrow(known(cone, 3, greatest), set(excluded...), axis), -2)
		}
	}
}

// The chapter's example: of nobody excluded it is twice Rate.
func TestExample(t *testing.T) {
	for _, c := range configs() {
		for axis := range 3 {
			is(t, call("Narrow of nobody", c, axis), hull.Narrow(c, 0, axis), twice(c.Rate))
		}
	}
}

// P25.5: by hand: just those count that have a box.
func TestP5VotesByHand(t *testing.T) {
	for _, c := range []struct {
		alive [22]bool
		want  [6]int
	}{
		{these(), [6]int{}},
		{these([]int{}, []int{0}, []int{1, 3}), [6]int{}},
		{all, [6]int{10, 10, 7, 10, 10, 7}},
		{these([]int{2}), [6]int{1, 1, 0, 1, 1, 1}},
		{these([]int{2}, []int{2, 4}, []int{3, 4}), [6]int{2, 2, 0, 2, 1, 2}},
		{these([]int{2}, []int{5}, []int{0, 3}), [6]int{2, 3, 2, 2, 3, 2}},
	} {
		is(t, call("Votes", c.alive), hull.Votes(byHand, c.alive, twoTold), c.want)
	}
	is(t, call("Votes of what fits"), hull.Votes(config.Usual(), all, reading(cone, api.Vec{1, 2, 3}, [6]int64{})), [6]int{16, 16, 16, 16, 16, 16})
	is(t, call("Votes of no reading"), hull.Votes(config.Usual(), all, api.Read{}), [6]int{16, 16, 16, 16, 16, 16})
	is(t, call("Votes of no rate"), hull.Votes(known(cone, 3, -1), all, api.Read{}), [6]int{})
}

// P25.6: by hand: of several the first one, an empty one has no width, and half is rounded up.
func TestP6WideByHand(t *testing.T) {
	for _, c := range []struct {
		b    api.Box
		want int
	}{
		{api.Box{}, 0},
		{cube(-5, 5), 0},
		{cube(1, 0), 0},
		{api.Box{of(0, 9), of(0, 5), of(0, 5)}, 0},
		{api.Box{of(0, 5), of(0, 9), of(0, 5)}, 1},
		{api.Box{of(0, 5), of(0, 5), of(0, 9)}, 2},
		{api.Box{of(0, 5), of(-9, 0), of(0, 9)}, 1},
		{api.Box{of(0, 9), of(0, 5), of(0, 9)}, 0},
		{api.Box{of(0, 5), of(0, 9), of(0, 20)}, 2},
		{api.Box{of(0, 1), of(0, 2), of(5, 5)}, 0}, // half of 1 is 1, too
		{api.Box{of(0, 2), of(0, 3), of(5, 5)}, 1},
		{api.Box{of(50, -50), of(7, 7), of(7, 7)}, 0},
		{api.Box{of(50, -50), of(7, 7), of(7, 8)}, 2},
		{api.Box{of(greatest, least), of(7, 8), of(7, 8)}, 1},
		{api.Box{of(least+1, greatest), of(least, greatest), of(7, 8)}, 0}, // held at the greatest number
		{api.Box{of(least, greatest-3), of(least, greatest-2), of(least, greatest)}, 1},
	} {
		is(t, call("Wide", c.b), hull.Wide(c.b), c.want)
	}
}

// P25.6, of ends of all kinds.
func TestP6Wide(t *testing.T) {
	n := numbers()
	half := func(a api.Span) int64 {
		if a.Hi < a.Lo {
			return 0
		}
		far := less(a.Hi, a.Lo)
		return held(far.Rsh(far.Add(far, big.NewInt(1)), 1))
	}
	for i := range n {
		for j := range n {
			for h := range n {
				b := api.Box{of(n[i], n[j]), of(n[j], n[h]), of(n[(i+h)%len(n)], n[(j+3*h)%len(n)])}
				halves := []int64{half(b[0]), half(b[1]), half(b[2])}
				is(t, call("Wide", b), hull.Wide(b), slices.Index(halves, slices.Max(halves)))
			}
		}
	}
}

// P25.7: by hand: a round leaves nothing of two hypotheses whose gyros make no triple, and less of others.
func TestP7TightByHand(t *testing.T) {
	for _, c := range []struct {
		alive  [22]bool
		rounds int
		want   told
	}{
		{these(), 5, told{}},
		{all, 0, told{cube(-100, 100), true}},
		{all, -1, told{cube(-100, 100), true}},
		{all, 1, told{api.Box{of(7, 17), of(17, 29), of(-100, 100)}, true}},
		{these([]int{2, 5}), 0, told{cube(-100, 100), true}},
		{these([]int{2, 5}), 1, told{api.Box{x, y, of(-100, 100)}, true}},
		{these([]int{0, 3}), 0, told{cube(-100, 100), true}},
		{these([]int{0, 3}), 1, told{}},
		{these([]int{0, 3}, []int{1, 4}, []int{}), 20, told{}},
		{these([]int{0, 3}, []int{2}, []int{0, 5}), 1, told{api.Box{x0, y, of(27, 41)}, true}},
	} {
		is(t, call("Tight", c.alive, c.rounds), tight(byHand, c.alive, twoTold, c.rounds), c.want)
	}
}

// P25.7, of all that may be alive, readings of all kinds, and rounds up to and beyond 20.
func TestP7Tight(t *testing.T) {
	rounds := []int{0, 1, 2, 3, 19, 20, 21, math.MaxInt, -1, math.MinInt}
	for k, c := range configs() {
		for i, r := range reads(c.Axes) {
			l := lives()
			for n := (i + k) % 31; n < len(l); n += 31 {
				for _, m := range []int{1, rounds[(n/31+i+k)%len(rounds)]} {
					is(t, call("Tight", c, l[n], r, m), tight(c, l[n], r, m), wantWhole(wantEach(c, l[n], r, m)))
				}
			}
		}
	}
}

// P25.7: each round is gone.
func TestP7Rounds(t *testing.T) {
	c := known(axes{{4, 5, 0}, {5, 6, 0}}, 0, api.MaxRate) // of which 0 and 1 tell more round by round, without an end
	r := allThere([12]int64{})
	alive := these([]int{}, []int{4}, []int{2, 3})
	for rounds := range 20 {
		now, next := tight(c, alive, r, rounds), tight(c, alive, r, rounds+1)
		is(t, call("Tight", rounds), now, wantWhole(wantEach(c, alive, r, rounds)))
		is(t, call("whether a round more is no less", rounds), now == next, false)
	}
	is(t, call("Tight in 21"), tight(c, alive, r, 21), tight(c, alive, r, 20))
}

// added is where the sum of a number of each is, axis by axis, held.
func added(a, b api.Box) api.Box {
	var all api.Box
	for axis := range all {
		all[axis] = of(held(sum(a[axis].Lo, b[axis].Lo)), held(sum(a[axis].Hi, b[axis].Hi)))
		if a[axis].Hi < a[axis].Lo || b[axis].Hi < b[axis].Lo {
			all[axis] = none
		}
	}
	return all
}

// P25.8: by hand: of no readings, of some, and of what fits no rate.
func TestP8SumByHand(t *testing.T) {
	two := these([]int{2}, []int{5})
	is(t, call("Sum of nil"), hull.Sum(byHand, two, nil), api.Box{})
	is(t, call("Sum of none"), hull.Sum(byHand, two, []api.Read{}), api.Box{})
	is(t, call("Sum of one"), hull.Sum(byHand, two, []api.Read{twoTold}), api.Box{x, y, of(27, 41)})
	is(t, call("Sum of two"), hull.Sum(byHand, two, []api.Read{twoTold, twoTold}), api.Box{of(22, 26), of(46, 46), of(54, 82)})
	other := allThere([12]int64{-10, -20, -30, -14, -26, -30})
	is(t, call("Sum of other ones"), hull.Sum(byHand, two, []api.Read{twoTold, other}), api.Box{of(-2, 2), of(0, 0), of(-6, 14)})
	is(t, call("Sum of what is not told"), hull.Sum(byHand, two, []api.Read{twoTold, {}, other}), api.Box{of(-102, 102), of(-100, 100), of(-106, 114)})
	is(t, call("Sum of what fits no rate"), hull.Sum(byHand, these([]int{}), []api.Read{twoTold, other}), api.Box{of(-113, 89), of(-123, 77), of(-133, 73)})
	is(t, call("Sum of none alive"), hull.Sum(byHand, these(), []api.Read{twoTold, other, twoTold}), cube(-300, 300))
	is(t, call("Sum of no rate"), hull.Sum(known(double, 3, -1), all, []api.Read{twoTold, {}}), cube(1, 0))
	is(t, call("Sum of no readings, and no rate"), hull.Sum(known(double, 3, -1), all, nil), api.Box{})
	is(t, call("Sum at the ends"), hull.Sum(known(double, 3, greatest), all, make([]api.Read, 3)), cube(least, greatest))
}

// P25.8, of readings of all kinds.
func TestP8Sum(t *testing.T) {
	for k, c := range configs() {
		l := lives()
		for n := k % 11; n < len(l); n += 11 {
			var want api.Box
			some := reads(c.Axes)[:1+(n+k)%11]
			for _, r := range some {
				b := wantWhole(wantEach(c, l[n], r, 0))
				if !b.is {
					b.b = cube(turned(less(0, c.Rate)), c.Rate)
				}
				want = added(want, b.b)
			}
			is(t, call("Sum", c, l[n], some), hull.Sum(c, l[n], some), want)
		}
	}
}

// fair makes readings of a rate that are off by at most Eps, but those of some gyros, which may read anything.
func fair(a axes, eps int64, rate api.Vec, bad []int, n int) api.Read {
	by := []int64{-eps, eps, 0, eps / 2, -eps / 3}
	var off [6]int64
	for i := range off {
		off[i] = by[(n*(i+1)+n/5+i*i)%len(by)]
	}
	r := reading(a, rate, off)
	for _, i := range bad {
		if n%2 == 0 {
			r.Value[i] = numbers()[(7*n+i)%len(numbers())]
		} else {
			r.Value[i] += int64(n*n) - 40*int64(n) + 11
		}
	}
	return r
}

// rates are rates near 0, and as great as they may be.
func rates() []api.Vec {
	return []api.Vec{{}, {1, 0, -1}, {1000, -2000, 300}, {api.MaxRate, -api.MaxRate, api.MaxRate}}
}

// P25.9 and P25.12: if one that is alive is right, the rate is in both, whoever else is alive, and whoever does not read; contracted it is no greater, round by round.
func TestP9P12Rate(t *testing.T) {
	l := lives()
	for k, a := range right() {
		for h, rate := range rates() {
			for place, bad := range who {
				n := 11*k + 5*h + place
				c := known(a, []int64{0, 1, 3, 1 << 20}[n%4], api.MaxRate)
				r := fair(a, c.Eps, rate, bad, n)
				if n%3 == 0 {
					r = there(r, 4095&^(1<<(n%6)))
				}
				alive := l[(7*n)%len(l)]
				alive[place] = true
				last := whole(c, alive, r)
				is(t, call("whether Of has the rate", c, alive, r, rate), last.is && enclose.Has(last.b, rate), true)
				for rounds := range 4 {
					next := tight(c, alive, r, rounds)
					is(t, call("whether Tight has the rate", c, alive, r, rate, rounds), next.is && enclose.Has(next.b, rate), true)
					is(t, call("whether Tight is not greater", c, alive, r, rounds), within(next, last), true)
					last = next
				}
			}
		}
	}
}

// P25.12: contracted it is never greater, whatever is read.
func TestP12NeverGreater(t *testing.T) {
	l := lives()
	for k, c := range configs() {
		for i, r := range reads(c.Axes) {
			alive := l[(13*k+5*i)%len(l)]
			for _, rounds := range []int{0, 1, 3} {
				is(t, call("whether Tight is not greater", c, alive, r, rounds), within(tight(c, alive, r, rounds), whole(c, alive, r)), true)
			}
		}
	}
}

// P25.10: if all six read, whatever that is, and whichever of those are alive who have all that are excluded.
func TestP10Narrow(t *testing.T) {
	l := lives()
	for k, a := range may() {
		for h, rate := range rates() {
			for place, excluded := range who {
				n := 11*k + 5*h + place
				c := known(a, []int64{0, 1, 3, 1000}[n%4], []int64{40, 4000, api.MaxRate}[n%3])
				for m, r := range append(reads(a)[1:5], fair(a, c.Eps, rate, excluded, 2*n+1), fair(a, c.Eps, rate, []int{n % 6}, 2*n+1)) {
					alive := l[(3*n+m)%len(l)]
					if m%2 == 0 {
						alive = all
					}
					for other, gyros := range who {
						if slices.ContainsFunc(excluded, func(i int) bool { return !slices.Contains(gyros, i) }) {
							alive[other] = false
						}
					}
					b := whole(c, alive, r)
					for axis := range b.b {
						far := b.b[axis].Hi - b.b[axis].Lo
						is(t, call("whether Of is not wider than Narrow", c, alive, r, excluded, axis), far <= hull.Narrow(c, set(excluded...), axis), true)
					}
				}
			}
		}
	}
}

// P25.10: no less would do: what is allowed is just as wide if two are excluded whose others fit, and if one is excluded whose others do not.
func TestP10JustReached(t *testing.T) {
	c := known(axes{{1, 0, 0}, {0, 1, 0}, {0, 0, 1}, {1, 1, 1}, {1, 2, 4}, {1, 3, 9}}, 3, 1000)
	fits := reading(c.Axes, api.Vec{5, 6, 7}, [6]int64{})
	is(t, call("Of"), whole(c, these([]int{4, 5}), fits), told{api.Box{of(2, 8), of(3, 9), of(4, 10)}, true})
	for axis := range 3 {
		is(t, call("Narrow", axis), hull.Narrow(c, set(4, 5), axis), 6)
	}
	c = known(axes{{1, 0, 0}, {0, 1, 0}, {0, 0, 1}, {30, 1, 1}, {30, -1, 2}, {1, 1, 1}}, 3, 1000)
	b := whole(c, these([]int{3, 5}, []int{4, 5}), allThere([12]int64{0, 0, 0, -90, 90, 7}))
	is(t, call("the first axis of Of"), b.b[0], of(-3, 3))
	is(t, call("Narrow"), hull.Narrow(c, set(5), 0), 6)
}

// P25.11: of all lives and readings: who is in each hypothesis that has a box has no votes, and nobody else has none.
func TestP11NoVotes(t *testing.T) {
	l := lives()
	for k, c := range configs() {
		for i, r := range reads(c.Axes) {
			for n := (i + k) % 13; n < len(l); n += 13 {
				_, has := hull.Each(c, l[n], r)
				votes := hull.Votes(c, l[n], r)
				for gyro := range 6 {
					in := true
					for place, gyros := range who {
						in = in && (!has[place] || slices.Contains(gyros, gyro))
					}
					is(t, call("whether it has no votes", c, l[n], r, gyro), votes[gyro] == 0, in)
				}
			}
		}
	}
}

// What tests leave of a gyro that drifts: it has no votes, the rate is in the box, and that is no wider than Narrow.
func TestOfReadings(t *testing.T) {
	c, rate := config.Usual(), api.Vec{700, -1200, 50}
	for gyro := range 6 {
		var off [6]int64
		off[gyro] = 2000
		r := reading(cone, rate, off)
		b := bank.New()
		for range 5 {
			b = bank.Update(b, c, r)
		}
		alive := hypo.Alive(b, 0)
		is(t, call("Excluded", gyro), hypo.Excluded(alive), 1<<gyro)
		is(t, call("Votes", gyro), hull.Votes(c, alive, r)[gyro], 0)
		got := whole(c, alive, r)
		is(t, call("whether Of has the rate", gyro), got.is && enclose.Has(got.b, rate), true)
		for axis := range 3 {
			is(t, call("whether Of is not wider than Narrow", gyro, axis), got.b[axis].Hi-got.b[axis].Lo <= hull.Narrow(c, 1<<gyro, axis), true)
		}
	}
}

// Rules: the same calls again have the same answers, and what they are given stays, also behind a list's end.
func TestKept(t *testing.T) {
	c, alive := config.Usual(), all
	room := []api.Read{reading(cone, api.Vec{9, 8, -7}, [6]int64{1, -1, 3}), {}, reading(cone, api.Vec{1, 2, 3}, [6]int64{90}), twoTold}
	keptConfig, keptAlive, kept := c, alive, slices.Clone(room)
	first, box, boxes := hull.Sum(c, alive, room[:3]), tight(c, alive, room[0], 3), each(c, alive, room[2])
	is(t, call("Sum again"), hull.Sum(c, alive, room[:3]), first)
	is(t, call("Tight again"), tight(c, alive, room[0], 3), box)
	is(t, call("Each again"), each(c, alive, room[2]), boxes)
	is(t, call("the configuration"), c, keptConfig)
	is(t, call("who is alive"), alive, keptAlive)
	is(t, call("whether the readings stay"), slices.Equal(room, kept), true)
}
