package clean_test

import (
	"fmt"
	"math"
	"math/big"
	"slices"
	"strings"
	"testing"

	"teetotum/api"
	"teetotum/clean"
	"teetotum/config"
)

const (
	greatest int64 = math.MaxInt64
	least    int64 = math.MinInt64
)

// nobody is the test of no gyro.
var nobody = api.Test{Gyro: -1, Clean: 0}

// noGyros are numbers that no gyro has.
var noGyros = []int{math.MinInt, -1 << 32, -7, -2, -1, 6, 7, 11, 12, 1 << 32, math.MaxInt}

// others are bits of a set that say nothing.
var others = []int{0, 64, 1 << 20, math.MinInt, -64}

// asked is a call, written out only where it is told.
type asked struct {
	name string
	args []any
}

func call(name string, args ...any) asked { return asked{name, args} }

func (a asked) String() string {
	var words []string
	for _, x := range a.args {
		words = append(words, fmt.Sprintf("%+v", x))
	}
	return a.name + " of " + strings.Join(words, ", ")
}

// is fails if got is not want.
func is[T comparable](t *testing.T, what asked, got, want T) {
	t.Helper()
	if got != want {
		t.Fatalf("%s: %+v, want %+v", what, got, want)
	}
}

// begun is what Begin answers.
type begun struct {
	test api.Test
	err  api.Errno
}

func begin(ground bool, excluded, i int) begun {
	test, err := clean.Begin(ground, excluded, i)
	return begun{test, err}
}

// gone is what Whole answers.
type gone struct {
	test  api.Test
	place int
}

func whole(c api.Config, i int, xs []api.Rate, reads []api.Read) gone {
	test, place := clean.Whole(c, i, xs, reads)
	return gone{test, place}
}

func of(lo, hi int64) api.Span { return api.Span{Lo: lo, Hi: hi} }

// isGyro is whether there is a gyro i.
func isGyro(i int) bool { return slices.Contains([]int{0, 1, 2, 3, 4, 5}, i) }

// asks is the usual configuration, with so many clean ticks asked for.
func asks(ticks int) api.Config {
	c := config.Usual()
	c.Clean = ticks
	return c
}

// known is a configuration of one axis, that all gyros have, and Eps.
func known(axis api.Vec, eps int64) api.Config {
	return api.Config{Axes: [6]api.Vec{axis, axis, axis, axis, axis, axis}, Eps: eps, Clean: 2}
}

// reading is that of one source alone.
func reading(i int, value int64) api.Read {
	var r api.Read
	r.Value[i], r.There[i] = value, true
	return r
}

// held is x, or the end of the numbers that is next to it.
func held(x *big.Int) *big.Int {
	switch {
	case x.Cmp(big.NewInt(greatest)) > 0:
		return big.NewInt(greatest)
	case x.Cmp(big.NewInt(least)) < 0:
		return big.NewInt(least)
	}
	return x
}

// product is that of both, held.
func product(a, b int64) *big.Int {
	return held(new(big.Int).Mul(big.NewInt(a), big.NewInt(b)))
}

// sum is that of both, held.
func sum(a, b *big.Int) *big.Int { return held(new(big.Int).Add(a, b)) }

// wantFits is whether the gyro may read the value, by the chapter's words.
func wantFits(c api.Config, b api.Box, i int, value int64) bool {
	if !isGyro(i) {
		return false
	}
	lo, hi := new(big.Int), new(big.Int)
	for axis, entry := range c.Axes[i] {
		if b[axis].Hi < b[axis].Lo {
			return false
		}
		ends := []*big.Int{product(b[axis].Lo, entry), product(b[axis].Hi, entry)}
		slices.SortFunc(ends, (*big.Int).Cmp)
		lo, hi = sum(lo, ends[0]), sum(hi, ends[1])
	}
	if c.Eps >= 0 {
		lo, hi = sum(lo, big.NewInt(-c.Eps)), sum(hi, big.NewInt(c.Eps))
	}
	v := big.NewInt(value)
	return lo.Cmp(v) <= 0 && v.Cmp(hi) <= 0
}

// wantStep is the test behind one tick more, by the chapter's words.
func wantStep(t api.Test, c api.Config, x api.Rate, r api.Read) api.Test {
	if !isGyro(t.Gyro) {
		return t
	}
	if x.Valid && r.There[t.Gyro] && wantFits(c, x.Box, t.Gyro, r.Value[t.Gyro]) {
		return api.Test{Gyro: t.Gyro, Clean: t.Clean + 1}
	}
	return api.Test{Gyro: t.Gyro, Clean: 0}
}

// P35.1
func TestP1None(t *testing.T) {
	is(t, call("None"), clean.None(), nobody)
}

// P35.2
func TestP2BeginByHand(t *testing.T) {
	for _, tt := range []struct {
		ground      bool
		excluded, i int
		want        begun
	}{
		{true, 0b000100, 2, begun{api.Test{Gyro: 2, Clean: 0}, api.OK}},
		{true, 0b100001, 0, begun{api.Test{Gyro: 0, Clean: 0}, api.OK}},
		{true, 0b100001, 5, begun{api.Test{Gyro: 5, Clean: 0}, api.OK}},
		{true, 0b111111, 3, begun{api.Test{Gyro: 3, Clean: 0}, api.OK}},
		{true, 0b100001, 1, begun{nobody, api.ErrNone}},
		{true, 0, 0, begun{nobody, api.ErrNone}},
		{true, 0b111111, 6, begun{nobody, api.ErrNone}},
		{true, 64, 6, begun{nobody, api.ErrNone}}, // a bit that says nothing
		{true, -1, 6, begun{nobody, api.ErrNone}},
		{true, 0b111111, -1, begun{nobody, api.ErrNone}},
		{true, -1, 4, begun{api.Test{Gyro: 4, Clean: 0}, api.OK}},
		{false, 0b000100, 2, begun{nobody, api.ErrState}},
		{false, 0, 2, begun{nobody, api.ErrState}}, // both are wrong: the first error counts
		{false, 0b111111, 6, begun{nobody, api.ErrState}},
		{false, 0b111111, -1, begun{nobody, api.ErrState}},
	} {
		is(t, call("Begin", tt.ground, tt.excluded, tt.i), begin(tt.ground, tt.excluded, tt.i), tt.want)
	}
}

// P35.2: of all sets, all gyros, and what is none.
func TestP2Begin(t *testing.T) {
	for set := range 64 {
		for _, more := range others {
			for _, i := range append([]int{0, 1, 2, 3, 4, 5}, noGyros...) {
				want := begun{nobody, api.ErrNone}
				if isGyro(i) && set&(1<<i) != 0 {
					want = begun{api.Test{Gyro: i}, api.OK}
				}
				is(t, call("Begin", true, set|more, i), begin(true, set|more, i), want)
				is(t, call("Begin", false, set|more, i), begin(false, set|more, i), begun{nobody, api.ErrState})
			}
		}
	}
}

// P35.3
func TestP3FitsByHand(t *testing.T) {
	point := func(x, y, z int64) api.Box { return api.Box{of(x, x), of(y, y), of(z, z)} }
	for _, tt := range []struct {
		axis   api.Vec
		eps    int64
		b      api.Box
		lo, hi int64 // what fits
	}{
		{api.Vec{10, 0, 5}, 3, point(0, 0, 0), -3, 3},
		{api.Vec{10, 0, 5}, 0, point(0, 0, 0), 0, 0},
		{api.Vec{10, 0, 5}, 3, point(100, 7, 20), 1097, 1103},
		{api.Vec{10, 0, 5}, 3, api.Box{of(100, 110), of(-4000, 4000), of(20, 30)}, 1097, 1253},
		{api.Vec{10, 0, 5}, 0, api.Box{of(100, 110), of(-4000, 4000), of(20, 30)}, 1100, 1250},
		{api.Vec{-5, 9, 6}, 3, api.Box{of(-10, 20), of(1, 2), of(-3, 4)}, -100 + 9 - 18 - 3, 50 + 18 + 24 + 3},
		{api.Vec{6, -9, 5}, 1, api.Box{of(1, 1), of(-2, 3), of(1, 1)}, 6 - 27 + 5 - 1, 6 + 18 + 5 + 1},
		{api.Vec{0, 0, 0}, 2, api.Box{of(-9, 9), of(-9, 9), of(-9, 9)}, -2, 2},
		{api.Vec{1, 1, 1}, -5, api.Box{of(0, 1), of(0, 1), of(0, 1)}, 0, 3}, // an Eps below 0 widens nothing
		{api.Vec{1, 0, 0}, 3, point(greatest-1, 0, 0), greatest - 4, greatest},
		{api.Vec{1, 0, 0}, 3, point(least+1, 0, 0), least, least + 4},
		{api.Vec{2, 0, 0}, 3, point(greatest-1, 0, 0), greatest - 3, greatest}, // a product that is held
		{api.Vec{1, 0, 0}, greatest, point(0, 0, 0), -greatest, greatest},
	} {
		c := known(tt.axis, tt.eps)
		for i := range 6 {
			for _, v := range []int64{tt.lo, tt.hi, tt.lo/2 + tt.hi/2} {
				is(t, call("Fits", c, tt.b, i, v), clean.Fits(c, tt.b, i, v), true)
			}
			if tt.lo > least {
				is(t, call("Fits", c, tt.b, i, tt.lo-1), clean.Fits(c, tt.b, i, tt.lo-1), false)
			}
			if tt.hi < greatest {
				is(t, call("Fits", c, tt.b, i, tt.hi+1), clean.Fits(c, tt.b, i, tt.hi+1), false)
			}
		}
		for _, i := range noGyros {
			is(t, call("Fits", c, tt.b, i, tt.lo), clean.Fits(c, tt.b, i, tt.lo), false)
		}
	}
}

// P35.3: where an axis has no rate nothing fits, also where its entry is 0.
func TestP3FitsNowhere(t *testing.T) {
	for axis := range 3 {
		for _, none := range []api.Span{of(1, 0), of(5, -5), of(greatest, least)} {
			b := api.Box{of(-9, 9), of(-9, 9), of(-9, 9)}
			b[axis] = none
			for i := range 6 {
				for v := int64(-30); v <= 30; v++ {
					is(t, call("Fits", b, i, v), clean.Fits(config.Usual(), b, i, v), false)
				}
			}
		}
	}
}

// configs are those that are tried: the usual one, with other Eps, turned, flat and great axes.
func configs() []api.Config {
	l := []api.Config{config.Usual(), known(api.Vec{1, 2, 3}, 0), known(api.Vec{30, -30, 30}, 1<<20), {}}
	for _, eps := range []int64{least, -4, -1, 0, 1, 50, greatest} {
		c := config.Usual()
		c.Eps = eps
		l = append(l, c)
	}
	far := config.Usual()
	for i := range far.Axes {
		far.Axes[i] = api.Vec{greatest - int64(i), int64(i) - 3, least + int64(i)}
	}
	return append(l, far)
}

// spans are those that a box is made of.
var spans = []api.Span{
	of(0, 0), of(-1, 1), of(2, 7), of(-9, -4), of(1, 0), of(-4000, 4000),
	of(greatest-5, greatest), of(least, least+9), of(least, greatest), of(-1<<61, 1<<61),
}

// boxes are all that are made of the spans.
func boxes() []api.Box {
	var l []api.Box
	for _, x := range spans {
		for _, y := range spans {
			for _, z := range spans {
				l = append(l, api.Box{x, y, z})
			}
		}
	}
	return l
}

// P35.3: of configurations and boxes of all kinds.
func TestP3Fits(t *testing.T) {
	values := []int64{least, least + 1, -1 << 61, -40005, -77, -4, -3, 0, 1, 3, 4, 60, 61, 40005, 1 << 61, greatest - 1, greatest}
	for _, c := range configs() {
		for _, b := range boxes() {
			for i := -1; i <= 6; i++ {
				for _, v := range values {
					if got := clean.Fits(c, b, i, v); got != wantFits(c, b, i, v) {
						t.Fatalf("Fits of %+v, %v, %d, %d: %v", c, b, i, v, got)
					}
				}
			}
		}
	}
}

// P35.3: all values near a box of some rates, and each gyro has an axis of its own.
func TestP3FitsEach(t *testing.T) {
	c := config.Usual()
	for _, b := range []api.Box{
		{of(1, 3), of(-2, 2), of(4, 4)},
		{of(-7, -7), of(0, 5), of(-1, 1)},
		{of(10, 10), of(-10, -10), of(3, 3)},
	} {
		for i := range 6 {
			for v := int64(-400); v <= 400; v++ {
				is(t, call("Fits", b, i, v), clean.Fits(c, b, i, v), wantFits(c, b, i, v))
			}
		}
	}
}

// zero is a rate that is valid, and 0 for certain.
var zero = api.Rate{Valid: true}

// P35.4
func TestP4StepByHand(t *testing.T) {
	c := config.Usual() // Eps is 3
	turned := api.Rate{Valid: true, Box: api.Box{of(100, 110), of(-4000, 4000), of(20, 30)}}
	elsewhere := api.Rate{Valid: true, Value: api.Vec{100, 0, 20}, Bound: api.Vec{9, 9, 9}} // the Box counts alone
	for _, tt := range []struct {
		test api.Test
		x    api.Rate
		r    api.Read
		want api.Test
	}{
		{api.Test{Gyro: 2, Clean: 0}, zero, reading(2, 0), api.Test{Gyro: 2, Clean: 1}},
		{api.Test{Gyro: 2, Clean: 3}, zero, reading(2, 3), api.Test{Gyro: 2, Clean: 4}},
		{api.Test{Gyro: 2, Clean: 4}, zero, reading(2, -3), api.Test{Gyro: 2, Clean: 5}}, // beyond what is asked for, too
		{api.Test{Gyro: 2, Clean: 3}, zero, reading(2, 4), api.Test{Gyro: 2, Clean: 0}},
		{api.Test{Gyro: 2, Clean: 3}, zero, reading(2, -4), api.Test{Gyro: 2, Clean: 0}},
		{api.Test{Gyro: 2, Clean: 3}, zero, reading(3, 0), api.Test{Gyro: 2, Clean: 0}}, // another one reads
		{api.Test{Gyro: 2, Clean: 3}, zero, api.Read{}, api.Test{Gyro: 2, Clean: 0}},
		{api.Test{Gyro: 2, Clean: 3}, api.Rate{}, reading(2, 0), api.Test{Gyro: 2, Clean: 0}},
		{api.Test{Gyro: 0, Clean: 1}, turned, reading(0, 1097), api.Test{Gyro: 0, Clean: 2}},
		{api.Test{Gyro: 0, Clean: 1}, turned, reading(0, 1253), api.Test{Gyro: 0, Clean: 2}},
		{api.Test{Gyro: 0, Clean: 1}, turned, reading(0, 1096), api.Test{Gyro: 0, Clean: 0}},
		{api.Test{Gyro: 0, Clean: 1}, turned, reading(0, 1254), api.Test{Gyro: 0, Clean: 0}},
		{api.Test{Gyro: 0, Clean: 1}, elsewhere, reading(0, 1100), api.Test{Gyro: 0, Clean: 0}},
		{api.Test{Gyro: 0, Clean: 1}, elsewhere, reading(0, 0), api.Test{Gyro: 0, Clean: 2}},
		{nobody, zero, reading(0, 0), nobody},
		{nobody, api.Rate{}, api.Read{}, nobody},
		{api.Test{Gyro: -1, Clean: 7}, zero, reading(0, 0), api.Test{Gyro: -1, Clean: 7}},
		{api.Test{Gyro: 6, Clean: 7}, zero, reading(6, 0), api.Test{Gyro: 6, Clean: 7}}, // a source, but no gyro
		{api.Test{Gyro: 6, Clean: 7}, api.Rate{}, api.Read{}, api.Test{Gyro: 6, Clean: 7}},
	} {
		is(t, call("Step", tt.test, tt.x, tt.r), clean.Step(tt.test, c, tt.x, tt.r), tt.want)
	}
}

// tests are those of all gyros, of what is none, and with few, many and fewer than no clean ticks.
func tests() []api.Test {
	var l []api.Test
	for _, i := range append([]int{0, 1, 2, 3, 4, 5}, noGyros...) {
		for _, n := range []int{math.MinInt, -1000, -2, -1, 0, 1, 2, 3, 4, 5, 999, 1000, 1001, math.MaxInt - 1} {
			l = append(l, api.Test{Gyro: i, Clean: n})
		}
	}
	return l
}

// P35.4: of all kinds of tests, rates and readings.
func TestP4Step(t *testing.T) {
	var every api.Read
	for i := range every.Value {
		every.Value[i], every.There[i] = int64(i-2), true
	}
	hidden := every
	hidden.There = [12]bool{}
	for _, c := range []api.Config{config.Usual(), known(api.Vec{1, 2, 3}, 0), {}} {
		for _, test := range tests() {
			for _, s := range spans {
				for _, valid := range []bool{false, true} {
					x := api.Rate{Valid: valid, Box: api.Box{s, of(0, 0), of(0, 1)}}
					reads := []api.Read{every, hidden, {}}
					for i := range 6 {
						one := every
						one.There[i] = false
						reads = append(reads, one, reading(i, 1), reading(i, 60))
					}
					for _, r := range reads {
						if got, want := clean.Step(test, c, x, r), wantStep(test, c, x, r); got != want {
							t.Fatalf("Step of %+v, %+v, %+v, %+v: %+v, want %+v", test, c, x, r, got, want)
						}
					}
				}
			}
		}
	}
}

// P35.4: at the end of int nothing is promised where a tick is clean, but a tick that is not takes all away.
func TestP4StepAtTheEnd(t *testing.T) {
	for i := range 6 {
		test := api.Test{Gyro: i, Clean: math.MaxInt}
		is(t, call("Step", test), clean.Step(test, config.Usual(), api.Rate{}, reading(i, 0)), api.Test{Gyro: i})
		clean.Step(test, config.Usual(), zero, reading(i, 0))
	}
}

// P35.5
func TestP5PassedByHand(t *testing.T) {
	for _, tt := range []struct {
		test  api.Test
		clean int
		want  bool
	}{
		{api.Test{Gyro: 0, Clean: 4}, 4, true},
		{api.Test{Gyro: 5, Clean: 4}, 4, true},
		{api.Test{Gyro: 0, Clean: 3}, 4, false},
		{api.Test{Gyro: 0, Clean: 5}, 4, true},
		{api.Test{Gyro: 0, Clean: 0}, 1, false},
		{api.Test{Gyro: 0, Clean: 1}, 1, true},
		{api.Test{Gyro: 0, Clean: 0}, 0, true},
		{api.Test{Gyro: 0, Clean: 999}, 1000, false},
		{nobody, 4, false},
		{nobody, 0, false},
		{api.Test{Gyro: -1, Clean: 4}, 4, false},
		{api.Test{Gyro: 6, Clean: 4}, 4, false},
	} {
		is(t, call("Passed", tt.test, tt.clean), clean.Passed(tt.test, asks(tt.clean)), tt.want)
	}
}

// ticks are how many clean ones may be asked for, and may not.
var ticks = []int{math.MinInt, -1000, -2, -1, 0, 1, 2, 3, 4, 5, 999, 1000, 1001, math.MaxInt}

// P35.5: of all kinds of tests.
func TestP5Passed(t *testing.T) {
	for _, n := range ticks {
		for _, test := range append(tests(), api.Test{Gyro: 3, Clean: math.MaxInt}) {
			is(t, call("Passed", test, n), clean.Passed(test, asks(n)), isGyro(test.Gyro) && test.Clean >= n)
		}
	}
}

// P35.6
func TestP6LeftByHand(t *testing.T) {
	for _, tt := range []struct {
		test        api.Test
		clean, want int
	}{
		{api.Test{Gyro: 0, Clean: 0}, 4, 4},
		{api.Test{Gyro: 5, Clean: 1}, 4, 3},
		{api.Test{Gyro: 0, Clean: 3}, 4, 1},
		{api.Test{Gyro: 0, Clean: 4}, 4, 0},
		{api.Test{Gyro: 0, Clean: 5}, 4, 0},
		{api.Test{Gyro: 0, Clean: 0}, 1000, 1000},
		{api.Test{Gyro: 0, Clean: 0}, 0, 0},
		{api.Test{Gyro: 0, Clean: -3}, 4, 4}, // fewer than none count as none
		{api.Test{Gyro: 0, Clean: -3}, -1, 0},
		{api.Test{Gyro: 0, Clean: math.MinInt}, math.MaxInt, math.MaxInt},
		{nobody, 4, 0},
		{api.Test{Gyro: -1, Clean: 3}, 4, 0},
		{api.Test{Gyro: 6, Clean: 3}, 4, 0},
	} {
		is(t, call("Left", tt.test, tt.clean), clean.Left(tt.test, asks(tt.clean)), tt.want)
	}
}

// P35.6: of all kinds of tests.
func TestP6Left(t *testing.T) {
	for _, n := range ticks {
		for _, test := range append(tests(), api.Test{Gyro: 3, Clean: math.MaxInt}) {
			want := 0
			if isGyro(test.Gyro) && n > 0 && test.Clean < n {
				want = n - max(test.Clean, 0)
			}
			is(t, call("Left", test, n), clean.Left(test, asks(n)), want)
		}
	}
}

// course is a rate and a reading of i for each letter: c is a clean tick, o is off, m is missing, v is not valid.
func course(i int, letters string) ([]api.Rate, []api.Read) {
	var xs []api.Rate
	var reads []api.Read
	for _, letter := range letters {
		x, r := zero, reading(i, 0)
		switch letter {
		case 'o':
			r = reading(i, 4)
		case 'm':
			r = api.Read{}
		case 'v':
			x = api.Rate{}
		}
		xs, reads = append(xs, x), append(reads, r)
	}
	return xs, reads
}

// P35.7
func TestP7WholeByHand(t *testing.T) {
	for _, tt := range []struct {
		clean   int
		letters string
		want    gone
	}{
		{4, "cccc", gone{api.Test{Gyro: 3, Clean: 4}, 3}},
		{4, "ccccc", gone{api.Test{Gyro: 3, Clean: 4}, 3}}, // no farther
		{4, "cccco", gone{api.Test{Gyro: 3, Clean: 4}, 3}},
		{4, "ccc", gone{api.Test{Gyro: 3, Clean: 3}, -1}},
		{4, "cccocccc", gone{api.Test{Gyro: 3, Clean: 4}, 7}},
		{4, "mvocccc", gone{api.Test{Gyro: 3, Clean: 4}, 6}},
		{4, "cccvcccmccco", gone{api.Test{Gyro: 3, Clean: 0}, -1}},
		{4, "cccocc", gone{api.Test{Gyro: 3, Clean: 2}, -1}},
		{1, "oc", gone{api.Test{Gyro: 3, Clean: 1}, 1}},
		{1, "c", gone{api.Test{Gyro: 3, Clean: 1}, 0}},
		{1, "o", gone{api.Test{Gyro: 3, Clean: 0}, -1}},
		{1, "", gone{api.Test{Gyro: 3, Clean: 0}, -1}},
		{0, "", gone{api.Test{Gyro: 3, Clean: 0}, -1}}, // there is no tick behind which it is passed
		{0, "oc", gone{api.Test{Gyro: 3, Clean: 0}, 0}},
		{0, "cc", gone{api.Test{Gyro: 3, Clean: 1}, 0}},
	} {
		xs, reads := course(3, tt.letters)
		is(t, call("Whole", tt.clean, tt.letters), whole(asks(tt.clean), 3, xs, reads), tt.want)
	}
}

// P35.7: as far as both lists go.
func TestP7WholeOfUnlikeLists(t *testing.T) {
	c := asks(4)
	xs, reads := course(2, "cccccccc")
	for n := range len(xs) + 1 {
		want := gone{api.Test{Gyro: 2, Clean: min(n, 4)}, -1}
		if n >= 4 {
			want.place = 3
		}
		is(t, call("Whole", "rates", n), whole(c, 2, xs[:n:n], reads), want)
		is(t, call("Whole", "readings", n), whole(c, 2, xs, reads[:n:n]), want)
	}
	empty := gone{api.Test{Gyro: 2}, -1}
	is(t, call("Whole", "nil", "nil"), whole(c, 2, nil, nil), empty)
	is(t, call("Whole", "nil"), whole(c, 2, nil, reads), empty)
	is(t, call("Whole", "rates", "nil"), whole(c, 2, xs, nil), empty)
	is(t, call("Whole", "empty"), whole(c, 2, []api.Rate{}, []api.Read{}), empty)
}

// P35.7: one that is no gyro never passes.
func TestP7WholeOfNobody(t *testing.T) {
	xs, reads := course(0, "cccccc")
	for _, i := range noGyros {
		for _, n := range []int{-1, 0, 1, 4} {
			is(t, call("Whole", n, i), whole(asks(n), i, xs, reads), gone{api.Test{Gyro: i}, -1})
		}
	}
}

// courses are all of so many letters.
func courses(long int) []string {
	l := []string{""}
	for range long {
		var longer []string
		for _, s := range l {
			for _, letter := range "comv" {
				longer = append(longer, s+string(letter))
			}
		}
		l = longer
	}
	return l
}

// P35.7, P35.9: all courses of up to six ticks, where each is held against runs of clean ones.
func TestP7P9Whole(t *testing.T) {
	for n := 1; n <= 4; n++ {
		run := strings.Repeat("c", n)
		for long := range 7 {
			for _, letters := range courses(long) {
				i := long % 6
				xs, reads := course(i, letters)
				last := letters[strings.LastIndexAny(letters, "omv")+1:]
				want := gone{api.Test{Gyro: i, Clean: len(last)}, -1}
				if at := strings.Index(letters, run); at >= 0 {
					want = gone{api.Test{Gyro: i, Clean: n}, at + n - 1}
				}
				is(t, call("Whole", n, letters), whole(asks(n), i, xs, reads), want)
			}
		}
	}
}

// P35.7: it is Step by Step, of rates and readings of all kinds.
func TestP7WholeByStep(t *testing.T) {
	seed := uint64(35)
	next := func(n uint64) int64 {
		seed = seed*6364136223846793005 + 1442695040888963407
		return int64(seed >> 33 % n)
	}
	for range 4000 {
		c := asks(int(next(4)) + 1)
		i := int(next(6))
		var xs []api.Rate
		var reads []api.Read
		for range next(12) {
			v := next(40) - 20
			xs = append(xs, api.Rate{Valid: next(8) > 0, Box: api.Box{of(v, v+1), of(-v, -v), of(0, next(3))}})
			r := reading(i, 0)
			for axis, entry := range c.Axes[i] {
				r.Value[i] += xs[len(xs)-1].Box[axis].Lo * entry
			}
			r.Value[i] += next(9) - 4
			r.There[i] = next(8) > 0
			reads = append(reads, r)
		}
		want := gone{api.Test{Gyro: i}, -1}
		for place := range xs {
			want.test = wantStep(want.test, c, xs[place], reads[place])
			if want.test.Clean == c.Clean {
				want.place = place
				break
			}
		}
		is(t, call("Whole", c.Clean, i, xs, reads), whole(c, i, xs, reads), want)
	}
}

// P35.8
func TestP8Fits(t *testing.T) {
	c := config.Usual()
	b := api.Box{of(-3, 5), of(7, 7), of(-4000, -3998)}
	for x := b[0].Lo; x <= b[0].Hi; x++ {
		for z := b[2].Lo; z <= b[2].Hi; z++ {
			for i, axis := range c.Axes {
				for off := -c.Eps; off <= c.Eps; off++ {
					v := x*axis[0] + 7*axis[1] + z*axis[2] + off
					is(t, call("Fits", b, i, v), clean.Fits(c, b, i, v), true)
				}
			}
		}
	}
}

// P35.8: at the greatest rates there may be.
func TestP8FitsFar(t *testing.T) {
	c := config.Usual()
	c.Eps = 1 << 20
	for i := range c.Axes {
		c.Axes[i] = api.Vec{api.MaxEntry, -api.MaxEntry, api.MaxEntry}
	}
	most := int64(api.MaxRate)
	b := api.Box{of(-most, most), of(-most, most), of(most, most)}
	for _, x := range []int64{-most, 0, most} {
		for _, y := range []int64{-most, 0, most} {
			for _, off := range []int64{-c.Eps, 0, c.Eps} {
				v := api.MaxEntry*(x-y+most) + off
				is(t, call("Fits", b, v), clean.Fits(c, b, 4, v), true)
			}
		}
	}
}

// P35.9
func TestP9Passed(t *testing.T) {
	for _, n := range []int{1, 2, 4, 37, 1000} {
		c := asks(n)
		for i := range 6 {
			test := begin(true, 1<<i, i).test
			for tick := range 2*n + 1 {
				is(t, call("Passed", test), clean.Passed(test, c), tick >= n)
				test = clean.Step(test, c, zero, reading(i, 0))
			}
			test = clean.Step(test, c, zero, reading(i, 4))
			is(t, call("Passed", test), clean.Passed(test, c), false)
		}
	}
}

// P35.10
func TestP10Left(t *testing.T) {
	for _, n := range []int{1, 2, 4, 37, 1000} {
		c := asks(n)
		for i := range 6 {
			test := begin(true, 63, i).test
			for range 2*n + 1 {
				left := clean.Left(test, c)
				is(t, call("Left", test), clean.Passed(test, c), left == 0)
				test = clean.Step(test, c, zero, reading(i, 0))
				is(t, call("Left", test), clean.Left(test, c), max(left-1, 0))
			}
			test = clean.Step(test, c, zero, api.Read{})
			is(t, call("Left", test), clean.Left(test, c), n)
		}
	}
}

// R3
func TestMemory(t *testing.T) {
	xs, reads := course(1, "ccoccccc")
	rooms := append(slices.Clip(xs), api.Rate{Value: api.Vec{7, 8, 9}}, zero)
	more := append(slices.Clip(reads), reading(1, 99), reading(1, 0))
	wantRooms, wantMore := slices.Clone(rooms), slices.Clone(more)
	for n := range len(xs) + 1 {
		clean.Whole(asks(4), 1, rooms[:n], more[:n])
	}
	if !slices.Equal(rooms, wantRooms) || !slices.Equal(more, wantMore) {
		t.Fatal("Whole changed what it was given")
	}
	is(t, call("Whole", "eight with room behind"), whole(asks(6), 1, rooms[:8], more[:8]), gone{api.Test{Gyro: 1, Clean: 5}, -1})
}

// The chapter's example.
func TestExample(t *testing.T) {
	_, err := clean.Begin(false, 1, 0)
	is(t, call("Begin", "in the air"), err, api.ErrState)
}
