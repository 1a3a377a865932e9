package rate_test

import (
	"fmt"
	"math"
	"math/big"
	"slices"
	"strings"
	"testing"

	"teetotum/api"
	"teetotum/bank"
	"teetotum/config"
	"teetotum/enclose"
	"teetotum/geom"
	"teetotum/hull"
	"teetotum/hypo"
	"teetotum/least"
	"teetotum/rate"
)

const (
	most   int64 = math.MaxInt64
	lowest int64 = math.MinInt64
)

type axes = [6]api.Vec

// asked is a call, written out only where it is told.
type asked struct {
	name string
	args []any
}

func call(name string, args ...any) asked { return asked{name, args} }

func (a asked) String() string {
	var words []string
	for _, x := range a.args {
		words = append(words, fmt.Sprintf("%+v", x))
	}
	return a.name + " of " + strings.Join(words, ", ")
}

// is fails if got is not want.
func is[T comparable](t *testing.T, what asked, got, want T) {
	t.Helper()
	if got != want {
		t.Fatalf("%s: %+v, want %+v", what, got, want)
	}
}

// told is a rate that fits, and whether there is one.
type told struct {
	v  api.Vec
	is bool
}

func fit(c api.Config, excluded int, r api.Read) told {
	v, is := rate.Fit(c, excluded, r)
	return told{v, is}
}

// others are bits of a set that say nothing.
var others = []int{0, 64, 1 << 20, math.MinInt, -64}

// who are the gyros of each hypothesis, in order.
var who = [22][]int{
	{},
	{0}, {1}, {2}, {3}, {4}, {5},
	{0, 1}, {0, 2}, {0, 3}, {0, 4}, {0, 5},
	{1, 2}, {1, 3}, {1, 4}, {1, 5},
	{2, 3}, {2, 4}, {2, 5},
	{3, 4}, {3, 5},
	{4, 5},
}

// set is gyros as a number's bits.
func set(gyros ...int) int {
	bits := 0
	for _, i := range gyros {
		bits |= 1 << i
	}
	return bits
}

// these has those hypotheses alive of just these gyros.
func these(some ...[]int) [22]bool {
	var alive [22]bool
	for place, gyros := range who {
		alive[place] = slices.ContainsFunc(some, func(h []int) bool { return slices.Equal(h, gyros) })
	}
	return alive
}

// only has those hypotheses alive whose places' bits are 1.
func only(bits int) [22]bool {
	var alive [22]bool
	for place := range alive {
		alive[place] = bits>>place&1 == 1
	}
	return alive
}

// places are those of all hypotheses, as bits.
const places = 1<<22 - 1

// all has all of them alive.
var all = only(places)

// lives are which ones may be alive: none, one, all, all but one, what tests leave, and any.
func lives() [][22]bool {
	l := [][22]bool{only(0), all}
	for place := range who {
		l = append(l, only(1<<place), only(places&^(1<<place)))
	}
	for n := 1; n < 1<<15; n += 997 {
		var b api.Bank
		for pair := range b.Refuted {
			b.Refuted[pair] = n>>pair&1 == 1
		}
		l = append(l, hypo.Alive(b, 0), hypo.Alive(b, 1<<(n%6)), only(n*n))
	}
	return l
}

// blamed are the gyros that are in each hypothesis that is alive.
func blamed(alive [22]bool) int {
	bits := 63
	for place, gyros := range who {
		if alive[place] {
			bits &= set(gyros...)
		}
	}
	if alive == only(0) {
		return 0
	}
	return bits
}

// cone are geom's axes, written out.
var cone = axes{{10, 0, 5}, {5, 9, 5}, {-5, 9, 6}, {-10, 1, 5}, {-5, -9, 5}, {6, -9, 5}}

// double are three axes, each twice: what fits best is the middle of both.
var double = axes{{1, 0, 0}, {0, 1, 0}, {0, 0, 1}, {1, 0, 0}, {0, 1, 0}, {0, 0, 1}}

// plane are six axes in one plane.
var plane = axes{{1, 2, 0}, {-2, -4, 0}, {3, 1, 0}, {0, 5, 0}, {7, -1, 0}, {7, -1, 0}}

// corners are axes with entries as great as they may be.
var corners = axes{{30, 0, 0}, {0, 30, 0}, {0, 0, 30}, {30, 30, 30}, {30, -30, 29}, {-30, 10, 20}}

// powers are axes 1, n, n n.
var powers = axes{{1, 0, 0}, {1, 1, 1}, {1, 2, 4}, {1, 3, 9}, {1, 4, 16}, {1, 5, 25}}

// far are axes with entries at the ends of the room.
var far = axes{{most, lowest, 1}, {1, most, 2}, {3, 1, lowest}, {lowest, lowest, 5}, {7, 11, 13}, {most, 1, 1}}

// deep are axes of which three tell a rate, but none fits best: the determinant that least divides by goes round to 0.
var deep = axes{{1 << 11, 0, 0}, {0, 1 << 11, 0}, {0, 0, 1 << 10}}

// mixed are axes whose entries are no greater than they may be, other ones of each seed.
func mixed(seed int64) axes {
	var a axes
	for i := range a {
		for k := range a[i] {
			at := seed + 7*int64(i) + 3*int64(k)
			a[i][k] = (at*at*(seed+11)+at*37+5)%61 - 30
		}
	}
	return a
}

// may are axes whose entries are no greater than they may be: of some three lie in one plane.
func may() []axes {
	l := []axes{{}, cone, double, plane, corners, powers}
	for seed := range int64(6) {
		l = append(l, mixed(seed))
	}
	return l
}

// right are those of may that are right.
func right() []axes {
	return slices.DeleteFunc(may(), func(a axes) bool { return geom.Right(a) != api.OK })
}

// every are axes of all kinds.
func every() []axes { return append(may(), far, deep) }

// known is a configuration of which just axes, Eps and Rate are known.
func known(a axes, eps, rate int64) api.Config { return api.Config{Axes: a, Eps: eps, Rate: rate} }

// numbers are edges: 0, the ends of the program's own limits, the roots of the room, and its ends.
func numbers() []int64 {
	l := []int64{0, 1, 2, 3, 1 << 20, api.MaxRead, 1<<31 - 1, 1 << 32, 3037000500, 1 << 62, most - 1, most}
	for _, x := range l[1:] {
		l = append(l, -x)
	}
	return append(l, lowest)
}

func of(lo, hi int64) api.Span { return api.Span{Lo: lo, Hi: hi} }

// cube is the box from lo to hi in each axis.
func cube(lo, hi int64) api.Box { return api.Box{of(lo, hi), of(lo, hi), of(lo, hi)} }

// allThere are readings of every source.
func allThere(value [12]int64) api.Read {
	r := api.Read{Value: value}
	for i := range r.There {
		r.There[i] = true
	}
	return r
}

// there is r with just those readings There whose bits the set has.
func there(r api.Read, set int) api.Read {
	for i := range r.There {
		r.There[i] = set>>i&1 == 1
	}
	return r
}

// reading is what the axes read of a rate, each off by its own.
func reading(a axes, rate api.Vec, off [6]int64) api.Read {
	var value [12]int64
	for n, axis := range a {
		value[n] = axis[0]*rate[0] + axis[1]*rate[1] + axis[2]*rate[2] + off[n]
	}
	return allThere(value)
}

// reads are readings of one rate, off in many ways, some that fit no rate, and some of which not all are There.
func reads(a axes) []api.Read {
	v := api.Vec{-300, 45, 77}
	return []api.Read{
		reading(a, api.Vec{}, [6]int64{}),
		reading(a, v, [6]int64{3, -2, 1, -3, 2, -1}),
		reading(a, v, [6]int64{3, -2, 100, -3, 2, -1}),
		reading(a, v, [6]int64{3, -2, 1, -300, 2, 150}),
		reading(a, v, [6]int64{40, -60, 1, -300, 2, 150}),
		there(reading(a, v, [6]int64{3, -2, 1, -3, 2, 90}), 0b111101),
		there(reading(a, v, [6]int64{}), 0b010101),
		there(reading(a, v, [6]int64{1, 0, 5}), 0b111111_000011),
		allThere([12]int64{1, 2, 3, 4, 5, 6, 7, 8, 9, 10, 11, 12}),
		allThere([12]int64{api.MaxRead, -api.MaxRead, api.MaxRead, -api.MaxRead, api.MaxRead, -api.MaxRead}),
		allThere([12]int64{most, lowest, most, lowest, most - 1, 0, 5}),
		{},
	}
}

// configs are configurations of all axes, with Eps and Rate of all kinds.
func configs() []api.Config {
	n := numbers()
	var l []api.Config
	for k, a := range every() {
		l = append(l, known(a, 3, 4000), known(a, 0, 300), known(a, n[(7*k+2)%len(n)], n[(11*k+5)%len(n)]))
	}
	return l
}

// held is x, or the end of the room that it is beyond.
func held(x *big.Int) int64 {
	switch {
	case x.IsInt64():
		return x.Int64()
	case x.Sign() < 0:
		return lowest
	default:
		return most
	}
}

func sum(a, b int64) *big.Int { return new(big.Int).Add(big.NewInt(a), big.NewInt(b)) }

func less(a, b int64) *big.Int { return new(big.Int).Sub(big.NewInt(a), big.NewInt(b)) }

// apart is how far both are apart, whatever room that needs.
func apart(a, b int64) *big.Int {
	d := less(a, b)
	return d.Abs(d)
}

// half is the half of how far lo and hi are apart, to be rounded down or up.
func half(lo, hi, more int64) *big.Int {
	d := less(hi, lo)
	return d.Rsh(d.Add(d, big.NewInt(more)), 1)
}

// middle is the middle of a, rounded down.
func middle(a api.Span) int64 {
	return held(new(big.Int).Add(big.NewInt(a.Lo), half(a.Lo, a.Hi, 0)))
}

// minors is the determinant of three rows.
func minors(m [3][3]*big.Int) *big.Int {
	det := new(big.Int)
	for k := range 3 {
		i, j := (k+1)%3, (k+2)%3
		p, q := new(big.Int).Mul(m[1][i], m[2][j]), new(big.Int).Mul(m[1][j], m[2][i])
		det.Add(det, p.Mul(m[0][k], p.Sub(p, q)))
	}
	return det
}

// bestFit is the rate whose squares of what is left of some readings add up to the least, by Cramer's rule, rounded to the nearest, up from the middle.
func bestFit(a axes, some int, r api.Read) told {
	var gram [3][3]*big.Int
	var right [3]*big.Int
	for i := range 3 {
		right[i] = new(big.Int)
		for k := range 3 {
			gram[i][k] = new(big.Int)
		}
	}
	for n, axis := range a {
		if some>>n&1 == 0 {
			continue
		}
		for i := range 3 {
			x := big.NewInt(axis[i])
			right[i].Add(right[i], new(big.Int).Mul(x, big.NewInt(r.Value[n])))
			for k := range 3 {
				gram[i][k].Add(gram[i][k], new(big.Int).Mul(x, big.NewInt(axis[k])))
			}
		}
	}
	det := minors(gram)
	if det.Sign() == 0 {
		return told{}
	}
	best := told{is: true}
	for k := range 3 {
		with := gram
		for i := range 3 {
			with[i][k] = right[i]
		}
		twice := new(big.Int).Lsh(minors(with), 1) // above 0, det rounds down: half of it more rounds to the nearest
		best.v[k] = held(twice.Div(twice.Add(twice, det), new(big.Int).Lsh(det, 1)))
	}
	return best
}

// P26.1: by hand: the middle of both that read, one that alone reads, and none.
func TestP1FitByHand(t *testing.T) {
	c := known(double, 3, 100)
	r := allThere([12]int64{10, 20, 30, 14, 27, -39, 1000, 2000, 3000, 4000, 5000, 6000})
	for _, x := range []struct {
		excluded, there int
		want            told
	}{
		{0, 63, told{api.Vec{12, 24, -4}, true}}, // 23.5 and -4.5 go up
		{0, 4095, told{api.Vec{12, 24, -4}, true}},
		{set(0), 63, told{api.Vec{14, 24, -4}, true}},
		{set(3), 63, told{api.Vec{10, 24, -4}, true}},
		{set(1, 5), 63, told{api.Vec{12, 27, 30}, true}},
		{set(0, 1, 2), 63, told{api.Vec{14, 27, -39}, true}},
		{set(0, 3), 63, told{}},
		{set(0, 1, 2, 3), 63, told{}},
		{63, 63, told{}},
		{-1, 63, told{}},
		{64, 63, told{api.Vec{12, 24, -4}, true}},
		{math.MinInt, 63, told{api.Vec{12, 24, -4}, true}},
		{0, 62, told{api.Vec{14, 24, -4}, true}},
		{0, 0b011010, told{}}, // no z
		{0, 0b011111, told{api.Vec{12, 24, 30}, true}},
		{set(4), 0b011110, told{api.Vec{14, 20, 30}, true}},
		{set(4), 0b111110, told{api.Vec{14, 20, -4}, true}},
		{set(4), 0b111100, told{}},
		{set(1), 0b111100, told{api.Vec{14, 27, -4}, true}},
		{0, 0b111111_000000, told{}},
		{0, 0, told{}},
	} {
		is(t, call("Fit", x.excluded, x.there), fit(c, x.excluded, there(r, x.there)), x.want)
	}
	is(t, call("Fit of one plane"), fit(known(plane, 3, 100), 0, r), told{})
	is(t, call("Fit beyond Rate"), fit(known(double, 3, 5), 0, r), told{api.Vec{12, 24, -4}, true})
	is(t, call("Fit of a determinant that goes round to 0"), fit(known(deep, 0, 100), 0, r), told{})
	over := known(axes{{1, 0, 0}, {0, 1, 0}, {0, 0, 1<<32 - 1}, {0, 0, 92681}, {0, 0, 173}, {0, 0, 370}}, 0, 0) // its determinant goes round to -1
	is(t, call("Fit of the last one that has room"), fit(over, 0, allThere([12]int64{lowest + 1, 7})), told{api.Vec{lowest + 1, 7, 0}, true})
	is(t, call("Fit of what has no room"), fit(over, 0, allThere([12]int64{lowest, 7})), told{})
	is(t, call("Fit of what has no room at another axis"), fit(over, 0, allThere([12]int64{7, lowest})), told{})
	is(t, call("Fit at the ends of the room"), fit(known(axes{{1, 0, 0}, {0, 1, 0}, {0, 0, 1}}, 0, 0), 0, allThere([12]int64{most, lowest, -1})), told{api.Vec{most, lowest, -1}, true})
}

// P26.1, of all who may be excluded, and all who may read, by the chapter's words.
func TestP1Fit(t *testing.T) {
	for k, a := range every() {
		for i, r := range reads(a) {
			for excluded := range 64 {
				for n := (i + k) % 3; n < 64; n += 3 {
					some := there(r, n|(excluded*7+i)<<6)
					v, err := least.Estimate(a, n&^excluded, some)
					got := fit(known(a, 3, 100), excluded|others[(i+n)%len(others)], some)
					is(t, call("Fit", a, excluded, some), got, told{v, err == api.OK})
				}
			}
		}
	}
}

// P26.1: nothing fits better, whatever they read who are excluded, or do not read.
func TestP1FitsBest(t *testing.T) {
	n := numbers()
	for k, a := range may() {
		for i, r := range reads(a)[:10] {
			for excluded := range 64 {
				reads := (37*excluded + 11*i + 5*k) % 64
				if excluded%4 == 0 {
					reads = 63
				}
				want := bestFit(a, reads&^excluded, r)
				some := there(r, reads)
				for gyro := range 6 {
					if (reads&^excluded)>>gyro&1 == 0 {
						some.Value[gyro] = n[(7*excluded+gyro+i)%len(n)]
					}
				}
				is(t, call("Fit", a, excluded, some), fit(known(a, 3, 100), excluded, some), want)
			}
		}
	}
}

// byHand and twoTold: x, y and z are told twice, the third time so that both can't be good.
var (
	byHand  = known(double, 3, 100)
	twoTold = allThere([12]int64{10, 20, 30, 14, 26, 38})

	x, y, z = of(11, 13), of(23, 23), of(35, 41) // z by 5 alone
)

// P26.2: by hand: what fits best, brought into the box at both ends, and the middle, of one that no triple tells.
func TestP2OutByHand(t *testing.T) {
	up, down := twoTold, twoTold
	up.Value[3], down.Value[3] = 50, -30 // 0 reads 10, so the middles are 30 and -10
	for _, c := range []struct {
		alive [22]bool
		r     api.Read
		want  api.Rate
	}{
		{these(), twoTold, api.Rate{}},
		{these([]int{}), twoTold, api.Rate{}},
		{these([]int{}, []int{0}, []int{1, 3}), twoTold, api.Rate{}},
		{these([]int{2}), twoTold, api.Rate{Valid: true, Value: api.Vec{12, 23, 38}, Bound: api.Vec{1, 0, 3}, Box: api.Box{x, y, z}}},
		{these([]int{0, 2}), twoTold, api.Rate{Valid: true, Value: api.Vec{14, 23, 38}, Bound: api.Vec{3, 0, 3}, Box: api.Box{of(11, 17), y, z}}},
		{these([]int{2}, []int{5}), twoTold, api.Rate{Valid: true, Value: api.Vec{12, 23, 34}, Bound: api.Vec{1, 0, 7}, Box: api.Box{x, y, of(27, 41)}}},
		{these([]int{0, 2}, []int{2, 3}), twoTold, api.Rate{Valid: true, Value: api.Vec{12, 23, 38}, Bound: api.Vec{5, 0, 3}, Box: api.Box{of(7, 17), y, z}}},
		{these([]int{0, 3}), twoTold, api.Rate{Valid: true, Bound: api.Vec{100, 100, 100}, Box: cube(-100, 100)}},
		{all, twoTold, api.Rate{Valid: true, Value: api.Vec{12, 23, 34}, Bound: api.Vec{112, 123, 134}, Box: cube(-100, 100)}},
		{all, api.Read{}, api.Rate{Valid: true, Bound: api.Vec{100, 100, 100}, Box: cube(-100, 100)}},
		{all, there(twoTold, 63), api.Rate{Valid: true, Value: api.Vec{12, 23, 34}, Bound: api.Vec{112, 123, 134}, Box: cube(-100, 100)}},
		{these([]int{2}), there(twoTold, 62), api.Rate{Valid: true, Value: api.Vec{14, 23, 38}, Bound: api.Vec{3, 0, 3}, Box: api.Box{of(11, 17), y, z}}},
		{these([]int{}, []int{2}), twoTold, api.Rate{Valid: true, Value: api.Vec{12, 23, 35}, Bound: api.Vec{1, 0, 6}, Box: api.Box{x, y, z}}}, // 34 is below
		{these([]int{}, []int{5}), twoTold, api.Rate{Valid: true, Value: api.Vec{12, 23, 33}, Bound: api.Vec{1, 0, 6}, Box: api.Box{x, y, of(27, 33)}}},
		{these([]int{2}, []int{0, 2}), up, api.Rate{Valid: true, Value: api.Vec{47, 23, 38}, Bound: api.Vec{6, 0, 3}, Box: api.Box{of(47, 53), y, z}}},
		{these([]int{2}, []int{0, 2}), down, api.Rate{Valid: true, Value: api.Vec{-27, 23, 38}, Bound: api.Vec{6, 0, 3}, Box: api.Box{of(-33, -27), y, z}}},
		{these([]int{2}, []int{0, 2}, []int{2, 3}), up, api.Rate{Valid: true, Value: api.Vec{30, 23, 38}, Bound: api.Vec{23, 0, 3}, Box: api.Box{of(7, 53), y, z}}},
		{these([]int{}, []int{0, 2}), up, api.Rate{Valid: true, Value: api.Vec{47, 23, 35}, Bound: api.Vec{6, 0, 6}, Box: api.Box{of(47, 53), y, z}}},
	} {
		is(t, call("Out", c.alive, c.r), rate.Out(byHand, c.alive, c.r), c.want)
	}
	is(t, call("Out of no rate"), rate.Out(known(double, 3, -1), all, twoTold), api.Rate{})
	is(t, call("Out of no rate, and no reading"), rate.Out(known(double, 3, -1), all, api.Read{}), api.Rate{})
}

// P26.2: by hand: the middle of boxes that are not about 0, rounded down, and how far it is from the upper end.
func TestP2MiddleByHand(t *testing.T) {
	c := known(deep, 5<<10, 100)
	alive := these([]int{})
	got := rate.Out(c, alive, allThere([12]int64{5 << 11, 11 << 10, -7 << 10}))
	is(t, call("Out"), got, api.Rate{Valid: true, Value: api.Vec{5, 5, -7}, Bound: api.Vec{2, 3, 5}, Box: api.Box{of(3, 7), of(3, 8), of(-12, -2)}})
	got = rate.Out(c, alive, allThere([12]int64{-11 << 10, 1 << 10, 97 << 10}))
	is(t, call("Out"), got, api.Rate{Valid: true, Value: api.Vec{-6, 0, 96}, Bound: api.Vec{3, 3, 4}, Box: api.Box{of(-8, -3), of(-2, 3), of(92, 100)}})
}

// wantOut is Out by the chapter's words.
func wantOut(c api.Config, alive [22]bool, r api.Read) api.Rate {
	b, has := hull.Of(c, alive, r)
	if !has {
		return api.Rate{}
	}
	some := 0
	for i := range 6 {
		if r.There[i] {
			some |= 1 << i
		}
	}
	v, err := least.Estimate(c.Axes, some&^blamed(alive), r)
	want := api.Rate{Valid: true, Value: v, Box: b}
	for axis, a := range b {
		if err != api.OK {
			want.Value[axis] = middle(a)
		}
		want.Value[axis] = min(max(want.Value[axis], a.Lo), a.Hi)
		want.Bound[axis] = max(held(apart(a.Lo, want.Value[axis])), held(apart(a.Hi, want.Value[axis])))
	}
	return want
}

// P26.2, of all that may be alive, and readings of all kinds.
func TestP2Out(t *testing.T) {
	l := lives()
	for k, c := range configs() {
		for i, r := range reads(c.Axes) {
			for n := (i + k) % 3; n < len(l); n += 3 {
				is(t, call("Out", c, l[n], r), rate.Out(c, l[n], r), wantOut(c, l[n], r))
			}
		}
	}
}

// P26.3: by hand: each axis has its own, and of nobody, or of three or more, it is twice Rate.
func TestP3MostByHand(t *testing.T) {
	a := axes{{3, 0, 0}, {0, 3, 0}, {0, 0, 3}, {1, 1, 1}, {1, 1, 2}, {5, 0, 0}}
	for _, c := range []struct {
		c        api.Config
		excluded int
		want     api.Vec
	}{
		{byHand, 0, api.Vec{200, 200, 200}},
		{byHand, set(0), api.Vec{200, 200, 200}},
		{byHand, set(0, 1), api.Vec{6, 6, 6}},
		{byHand, set(0, 1) | 64, api.Vec{6, 6, 6}},
		{byHand, set(1, 4), api.Vec{200, 200, 200}},
		{byHand, set(0, 1, 2), api.Vec{200, 200, 200}},
		{byHand, 63, api.Vec{200, 200, 200}},
		{known(a, 5, 1000), set(4, 5), api.Vec{3, 3, 3}},
		{known(a, 5, 1000), set(2, 5), api.Vec{3, 3, 8}}, // 2 5 15 / 18
		{known(a, 5, 3), set(2, 5), api.Vec{3, 3, 6}},
	} {
		is(t, call("Most", c.c, c.excluded), rate.Most(c.c, c.excluded), c.want)
	}
}

// P26.3, of all who may be excluded, and configurations of all kinds.
func TestP3Most(t *testing.T) {
	for k, c := range append(configs(), config.Usual()) {
		for excluded := range 64 {
			excluded |= others[(k+excluded)%len(others)]
			want := api.Vec{hull.Narrow(c, excluded, 0), hull.Narrow(c, excluded, 1), hull.Narrow(c, excluded, 2)}
			is(t, call("Most", c, excluded), rate.Most(c, excluded), want)
		}
	}
}

// P26.4: by hand: just as far as the Bound, and by one more, in each axis, either way; the Box says nothing.
func TestP4SureByHand(t *testing.T) {
	x := api.Rate{Valid: true, Value: api.Vec{10, -20, 30}, Bound: api.Vec{5, 0, 7}}
	for _, c := range []struct {
		v    api.Vec
		want bool
	}{
		{api.Vec{10, -20, 30}, true},
		{api.Vec{15, -20, 30}, true},
		{api.Vec{16, -20, 30}, false},
		{api.Vec{5, -20, 30}, true},
		{api.Vec{4, -20, 30}, false},
		{api.Vec{10, -19, 30}, false},
		{api.Vec{10, -21, 30}, false},
		{api.Vec{10, 20, 30}, false},
		{api.Vec{10, -20, 37}, true},
		{api.Vec{10, -20, 38}, false},
		{api.Vec{10, -20, 23}, true},
		{api.Vec{10, -20, 22}, false},
		{api.Vec{15, -20, 23}, true},
		{api.Vec{}, false},
	} {
		is(t, call("Sure", c.v), rate.Sure(x, c.v), c.want)
		not := x
		not.Valid = false
		is(t, call("Sure of what is not valid", c.v), rate.Sure(not, c.v), false)
		not = x
		not.Bound[1] = -1
		is(t, call("Sure of a bound below 0", c.v), rate.Sure(not, c.v), false)
		boxed := x
		boxed.Box = cube(1, 0)
		is(t, call("Sure of a box", c.v), rate.Sure(boxed, c.v), c.want)
	}
	is(t, call("Sure of nothing"), rate.Sure(api.Rate{}, api.Vec{}), false)
	is(t, call("Sure of 0"), rate.Sure(api.Rate{Valid: true}, api.Vec{}), true)
}

// P26.4, of numbers of all kinds, at the ends of the room: what has no room is farther than any Bound.
func TestP4Sure(t *testing.T) {
	n := numbers()
	for axis := range 3 {
		for _, value := range n {
			for _, v := range append(n, value-1, value+1) {
				for _, bound := range append(n, v-value, v-value-1, v-value+1, value-v, value-v-1, value-v+1) {
					x, rest := api.Rate{Valid: true, Value: api.Vec{5, 6, 7}, Bound: api.Vec{1, 1, 1}}, api.Vec{4, 7, 7}
					x.Value[axis], x.Bound[axis], rest[axis] = value, bound, v
					want := apart(value, v).Cmp(big.NewInt(bound)) <= 0
					is(t, call("Sure", x, rest), rate.Sure(x, rest), want)
				}
			}
		}
	}
	for _, c := range []struct{ value, v int64 }{{lowest, 0}, {0, lowest}, {1, lowest}, {most, -1}, {-1, most}, {lowest, most}, {most, lowest}} {
		x := api.Rate{Valid: true, Value: api.Vec{c.value, c.value, c.value}, Bound: api.Vec{most, most, most}}
		is(t, call("Sure", c.value, c.v), rate.Sure(x, api.Vec{c.v, c.v, c.v}), false)
	}
}

// P26.5: by hand: there, on the way up and down, at once and never.
func TestP5SmoothByHand(t *testing.T) {
	old := api.Vec{10, 20, -30}
	x := api.Rate{Valid: true, Value: api.Vec{100, 15, -31}, Bound: api.Vec{1, 2, 3}, Box: cube(0, 0)}
	for _, c := range []struct {
		most int64
		want api.Vec
	}{
		{0, old},
		{1, api.Vec{11, 19, -31}},
		{4, api.Vec{14, 16, -31}},
		{5, api.Vec{15, 15, -31}},
		{89, api.Vec{99, 15, -31}},
		{90, api.Vec{100, 15, -31}},
		{91, api.Vec{100, 15, -31}},
		{most, api.Vec{100, 15, -31}},
		{-1, old},
		{lowest, old},
	} {
		is(t, call("Smooth", c.most), rate.Smooth(old, x, c.most), c.want)
		not := x
		not.Valid = false
		is(t, call("Smooth of what is not valid", c.most), rate.Smooth(old, not, c.most), old)
	}
}

// step is now, at most as far from old.
func step(old, now, far int64) int64 {
	if far < 0 {
		return old
	}
	return min(max(now, held(less(old, far))), held(sum(old, far)))
}

// P26.5, of numbers of all kinds.
func TestP5Smooth(t *testing.T) {
	n := numbers()
	for i, old := range n {
		for j, now := range n {
			for h, far := range n {
				olds := api.Vec{old, n[(i+h)%len(n)], n[(j+2*h)%len(n)]}
				x := api.Rate{Valid: true, Value: api.Vec{now, n[(j+5*i)%len(n)], n[(i+7*h)%len(n)]}}
				want := api.Vec{step(olds[0], x.Value[0], far), step(olds[1], x.Value[1], far), step(olds[2], x.Value[2], far)}
				is(t, call("Smooth", olds, x, far), rate.Smooth(olds, x, far), want)
			}
		}
	}
}

// boxed is what is valid, and has a box; what else it tells says nothing.
func boxed(b api.Box) api.Rate {
	return api.Rate{Valid: true, Value: api.Vec{777, 888, 999}, Bound: api.Vec{-1, -2, -3}, Box: b}
}

// P26.6: by hand: what both have, at an end, one in the other, nothing in one axis, and one that is not valid, as it is.
func TestP6JoinByHand(t *testing.T) {
	a := boxed(api.Box{of(0, 10), of(-5, 5), of(100, 200)})
	for _, c := range []struct {
		b    api.Box
		want api.Rate
	}{
		{a.Box, api.Rate{Valid: true, Value: api.Vec{5, 0, 150}, Bound: api.Vec{5, 5, 50}, Box: a.Box}},
		{api.Box{of(4, 20), of(-9, -2), of(150, 155)}, api.Rate{Valid: true, Value: api.Vec{7, -4, 152}, Bound: api.Vec{3, 2, 3}, Box: api.Box{of(4, 10), of(-5, -2), of(150, 155)}}},
		{api.Box{of(10, 20), of(-9, -5), of(200, 200)}, api.Rate{Valid: true, Value: api.Vec{10, -5, 200}, Box: api.Box{of(10, 10), of(-5, -5), of(200, 200)}}},
		{cube(-1000, 1000), api.Rate{Valid: true, Value: api.Vec{5, 0, 150}, Bound: api.Vec{5, 5, 50}, Box: a.Box}},
		{api.Box{of(11, 20), of(-5, 5), of(100, 200)}, api.Rate{}},
		{api.Box{of(0, 10), of(-9, -6), of(100, 200)}, api.Rate{}},
		{api.Box{of(0, 10), of(-5, 5), of(0, 99)}, api.Rate{}},
		{api.Box{of(0, 10), of(5, -5), of(100, 200)}, api.Rate{}},
		{cube(1, 0), api.Rate{}},
	} {
		is(t, call("Join", a, c.b), rate.Join(a, boxed(c.b)), c.want)
		is(t, call("Join", c.b, a), rate.Join(boxed(c.b), a), c.want)
		not := boxed(c.b)
		not.Valid = false
		is(t, call("Join of what is valid alone", a, not), rate.Join(a, not), a)
		is(t, call("Join of what is valid alone", not, a), rate.Join(not, a), a)
	}
	is(t, call("Join of nothing"), rate.Join(api.Rate{}, api.Rate{}), api.Rate{})
	empty := boxed(cube(1, 0))
	is(t, call("Join of an empty one alone"), rate.Join(empty, api.Rate{}), empty)
	is(t, call("Join of the whole room"), rate.Join(boxed(cube(lowest, most)), boxed(cube(lowest, most))), api.Rate{Valid: true, Value: api.Vec{-1, -1, -1}, Bound: api.Vec{most, most, most}, Box: cube(lowest, most)})
}

// wantJoin is Join by the chapter's words, of two that are valid.
func wantJoin(a, b api.Box) api.Rate {
	want := api.Rate{Valid: true}
	for axis := range a {
		both := of(max(a[axis].Lo, b[axis].Lo), min(a[axis].Hi, b[axis].Hi))
		if both.Hi < both.Lo {
			return api.Rate{}
		}
		want.Box[axis], want.Value[axis], want.Bound[axis] = both, middle(both), held(half(both.Lo, both.Hi, 1))
	}
	return want
}

// P26.6, of ends of all kinds.
func TestP6Join(t *testing.T) {
	n := numbers()
	var l []api.Box
	for i := range n {
		for j := range n {
			l = append(l, api.Box{of(min(n[i], n[j]), max(n[i], n[j])), of(-int64(i), int64(j)), of(n[(i+j)%len(n)], most)})
		}
	}
	l = append(l, cube(1, 0), cube(0, 0), cube(lowest, most))
	for i, a := range l {
		for k := i % 7; k < len(l); k += 7 {
			is(t, call("Join", a, l[k]), rate.Join(boxed(a), boxed(l[k])), wantJoin(a, l[k]))
		}
	}
}

// P26.7: by hand: within, at the ends, beyond either, and of an empty span nothing; what else is told says nothing.
func TestP7OffByHand(t *testing.T) {
	for _, c := range []struct {
		b       api.Box
		v, want api.Vec
	}{
		{cube(-5, 9), api.Vec{0, -5, 9}, api.Vec{0, 0, 0}},
		{cube(-5, 9), api.Vec{-6, 10, 0}, api.Vec{1, 1, 0}},
		{cube(-5, 9), api.Vec{109, 7, -1005}, api.Vec{100, 0, 1000}},
		{api.Box{of(1, 2), of(30, 40), of(500, 600)}, api.Vec{35, 35, 35}, api.Vec{33, 0, 465}},
		{api.Box{of(1, 0), of(9, -9), of(3, 3)}, api.Vec{50, 50, 50}, api.Vec{0, 0, 47}},
		{cube(lowest, most), api.Vec{lowest, most, 0}, api.Vec{}},
		{api.Box{of(lowest, lowest), of(0, most), of(lowest, -2)}, api.Vec{most, lowest, most}, api.Vec{most, most, most}}, // held
		{api.Box{of(lowest, lowest), of(0, most), of(lowest, 0)}, api.Vec{-1, lowest + 1, most}, api.Vec{most, most, most}},
	} {
		is(t, call("Off", c.b, c.v), rate.Off(boxed(c.b), c.v), c.want)
		is(t, call("Off of what is not valid", c.b, c.v), rate.Off(api.Rate{Box: c.b}, c.v), c.want)
	}
}

// gap is how far x is from a, held.
func gap(a api.Span, x int64) int64 {
	switch {
	case a.Hi < a.Lo:
		return 0
	case x < a.Lo:
		return held(less(a.Lo, x))
	case x > a.Hi:
		return held(less(x, a.Hi))
	default:
		return 0
	}
}

// P26.7, of numbers of all kinds.
func TestP7Off(t *testing.T) {
	n := numbers()
	for i := range n {
		for j := range n {
			for h, x := range n {
				b := api.Box{of(n[i], n[j]), of(min(n[j], n[h]), max(n[j], n[h])), of(n[(i+h)%len(n)], most)}
				v := api.Vec{x, n[(h+5*i)%len(n)], n[(j+3*h)%len(n)]}
				want := api.Vec{gap(b[0], v[0]), gap(b[1], v[1]), gap(b[2], v[2])}
				is(t, call("Off", b, v), rate.Off(boxed(b), v), want)
			}
		}
	}
}

// fair makes readings of a rate that are off by at most Eps, but those of some gyros, which may read anything.
func fair(a axes, eps int64, v api.Vec, bad []int, n int) api.Read {
	by := []int64{-eps, eps, 0, eps / 2, -eps / 3}
	var off [6]int64
	for i := range off {
		off[i] = by[(n*(i+1)+n/5+i*i)%len(by)]
	}
	r := reading(a, v, off)
	for _, i := range bad {
		if n%2 == 0 {
			r.Value[i] = numbers()[(7*n+i)%len(numbers())]
		} else {
			r.Value[i] += int64(n*n) - 40*int64(n) + 11
		}
	}
	return r
}

// rates are rates near 0, and as great as they may be.
func rates() []api.Vec {
	return []api.Vec{{}, {1, 0, -1}, {1000, -2000, 300}, {api.MaxRate, -api.MaxRate, api.MaxRate}}
}

// P26.8, P26.10: if one that is alive is right, what is told is sure of the rate, whoever else is alive, and whoever does not read; so is what two ticks of the same rate tell together.
func TestP8P10Rate(t *testing.T) {
	l := lives()
	for k, a := range right() {
		for h, v := range rates() {
			for place, bad := range who {
				n := 11*k + 5*h + place
				c := known(a, []int64{0, 1, 3, 1 << 20}[n%4], api.MaxRate)
				last := api.Rate{}
				for m := range 5 {
					r := fair(a, c.Eps, v, bad, n+17*m)
					if (n+m)%3 == 0 {
						r = there(r, 4095&^(1<<(n%6)))
					}
					alive := l[(7*n+m)%len(l)]
					alive[place] = true
					x := rate.Out(c, alive, r)
					last = rate.Join(last, x)
					for _, told := range []api.Rate{x, last} {
						is(t, call("Sure", c, alive, r, told, v), rate.Sure(told, v), true)
						is(t, call("Off", c, alive, r, told, v), rate.Off(told, v), api.Vec{})
					}
				}
			}
		}
	}
}

// P26.9: if all six read, whatever that is, and whoever is alive.
func TestP9Most(t *testing.T) {
	l := lives()
	for k, a := range may() {
		for h, v := range rates() {
			for place, bad := range who {
				n := 11*k + 5*h + place
				c := known(a, []int64{0, 1, 3, 1000}[n%4], []int64{40, 4000, api.MaxRate}[n%3])
				for m, r := range append(reads(a)[1:5], fair(a, c.Eps, v, bad, 2*n+1), fair(a, c.Eps, v, bad, 2*n)) {
					alive := l[(3*n+m)%len(l)]
					if m%2 == 0 { // all that have these
						for other, gyros := range who {
							alive[other] = set(bad...)&^set(gyros...) == 0
						}
					}
					x, most := rate.Out(c, alive, r), rate.Most(c, hypo.Excluded(alive))
					for axis := range 3 {
						is(t, call("whether the Bound is not above Most", c, alive, r, axis), x.Bound[axis] <= most[axis], true)
					}
				}
			}
		}
	}
}

// P26.10: of all small boxes and all rates in them: what is in both is in what is joined, and no other one is; what is in a box is off by nothing, and no other one is.
func TestP10Small(t *testing.T) {
	var spans []api.Span
	for lo := int64(-2); lo <= 2; lo++ {
		for hi := lo; hi <= 3; hi++ {
			spans = append(spans, of(lo, hi))
		}
	}
	for i := range spans {
		for j := range spans {
			a := boxed(api.Box{spans[i], spans[(i+3)%len(spans)], spans[(i+7)%len(spans)]})
			b := boxed(api.Box{spans[j], spans[(i+2*j)%len(spans)], spans[(j+11)%len(spans)]})
			both := rate.Join(a, b)
			for n := range int64(343) {
				v := api.Vec{n%7 - 3, n/7%7 - 3, n/49 - 3}
				inA, inB := enclose.Has(a.Box, v), enclose.Has(b.Box, v)
				is(t, call("whether it is joined", a, b, v), both.Valid && enclose.Has(both.Box, v), inA && inB)
				is(t, call("whether it is off by nothing", a, v), rate.Off(a, v) == api.Vec{}, inA)
				if inA && inB {
					is(t, call("Sure", both, v), rate.Sure(both, v), true)
				}
			}
		}
	}
}

// The chapter's example: without a hypothesis that is alive nothing is told.
func TestExample(t *testing.T) {
	for _, c := range append(configs(), config.Usual()) {
		for _, r := range reads(c.Axes) {
			is(t, call("Out", c, r), rate.Out(c, [22]bool{}, r), api.Rate{})
		}
	}
}

// What is told while a gyro drifts: ahead of its being excluded, and behind.
func TestOfReadings(t *testing.T) {
	c, v := config.Usual(), api.Vec{700, -1200, 50}
	for gyro := range 6 {
		b := bank.New()
		for tick := range int64(12) {
			var off [6]int64
			off[gyro] = 200 * tick
			r := reading(cone, v, off)
			b = bank.Update(b, c, r)
			alive := hypo.Alive(b, 0)
			x := rate.Out(c, alive, r)
			is(t, call("Sure", gyro, tick), rate.Sure(x, v), true)
			if tick < 11 {
				continue
			}
			is(t, call("Excluded", gyro), hypo.Excluded(alive), 1<<gyro)
			is(t, call("the Value", gyro), x.Value, v)
			far := rate.Most(c, 1<<gyro)
			for axis := range 3 {
				is(t, call("whether the Bound is not above Most", gyro, axis), x.Bound[axis] <= far[axis], true)
			}
		}
	}
}

// Rules: the same calls again have the same answers, and what they are given stays.
func TestKept(t *testing.T) {
	c, alive, r := config.Usual(), these([]int{2}, []int{2, 5}), reading(cone, api.Vec{9, 8, -7}, [6]int64{1, -1, 500})
	keptConfig, keptAlive, keptRead := c, alive, r
	x := rate.Out(c, alive, r)
	kept, old := x, api.Vec{1, 2, 3}
	smooth, joined := rate.Smooth(old, x, 1), rate.Join(x, boxed(cube(-5, 9)))
	is(t, call("Out again"), rate.Out(c, alive, r), x)
	is(t, call("Smooth again"), rate.Smooth(old, x, 1), smooth)
	is(t, call("Join again"), rate.Join(x, boxed(cube(-5, 9))), joined)
	is(t, call("the configuration"), c, keptConfig)
	is(t, call("who is alive"), alive, keptAlive)
	is(t, call("the readings"), r, keptRead)
	is(t, call("what is told"), x, kept)
	is(t, call("the rate of before"), old, api.Vec{1, 2, 3})
}
