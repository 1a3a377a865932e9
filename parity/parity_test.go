package parity_test

import (
	"fmt"
	"math"
	"math/big"
	"strings"
	"testing"

	"teetotum/api"
	"teetotum/config"
	"teetotum/geom"
	"teetotum/parity"
)

const (
	greatest int64 = math.MaxInt64
	least    int64 = math.MinInt64
)

type axes = [6]api.Vec

// asked is a call, written out only where it is told.
type asked struct {
	name string
	args []any
}

func call(name string, args ...any) asked { return asked{name, args} }

func (a asked) String() string {
	var words []string
	for _, x := range a.args {
		words = append(words, fmt.Sprintf("%+v", x))
	}
	return a.name + " of " + strings.Join(words, ", ")
}

// is fails if got is not want.
func is[T comparable](t *testing.T, what asked, got, want T) {
	t.Helper()
	if got != want {
		t.Fatalf("%s: %+v, want %+v", what, got, want)
	}
}

// told is a number, and whether there is one.
type told struct {
	n  int64
	is bool
}

func residual(c api.Config, pair int, r api.Read) told {
	n, is := parity.Residual(c, pair, r)
	return told{n, is}
}

func excess(c api.Config, pair int, r api.Read) told {
	n, is := parity.Excess(c, pair, r)
	return told{n, is}
}

// noPairs are numbers that no pair has, noSources those that no source has, and noGyros those that no gyro has.
var (
	noPairs   = []int{math.MinInt, -1 << 32, -15, -2, -1, 15, 16, 20, 63, 1 << 32, math.MaxInt}
	noSources = []int{math.MinInt, -1 << 32, -12, -6, -2, -1, 12, 13, 15, 1 << 32, math.MaxInt}
	noGyros   = append([]int{6, 7, 8, 9, 10, 11}, noSources...)
)

// cone are geom's axes, written out.
var cone = axes{{10, 0, 5}, {5, 9, 5}, {-5, 9, 6}, {-10, 1, 5}, {-5, -9, 5}, {6, -9, 5}}

// plane are six axes in one plane: all their factors are 0.
var plane = axes{{1, 2, 0}, {-2, -4, 0}, {3, 1, 0}, {0, 5, 0}, {7, -1, 0}, {7, -1, 0}}

// corners are axes with entries as great as they may be.
var corners = axes{{30, 0, 0}, {0, 30, 0}, {0, 0, 30}, {30, 30, 30}, {30, -30, 29}, {-30, 10, 20}}

// powers are axes 1, n, n n: their determinants are the products of the numbers' differences.
var powers = axes{{1, 0, 0}, {1, 1, 1}, {1, 2, 4}, {1, 3, 9}, {1, 4, 16}, {1, 5, 25}}

// far are axes with entries at the ends of the room.
var far = axes{{greatest, least, 1}, {1, greatest, 2}, {3, 1, least}, {least, least, 5}, {7, 11, 13}, {greatest, 1, 1}}

// turning are axes of which three make the least number as determinant.
var turning = axes{{1 << 21, 0, 0}, {0, 1 << 21, 0}, {0, 0, 1 << 21}, {1, 1 << 21, 1}, {1 << 22, 3, 1}, {1, 1, 1 << 22}}

// small are axes whose entries are no greater than they may be, other ones of each seed.
func small(seed int64) axes {
	var a axes
	for i := range a {
		for k := range a[i] {
			at := seed + 7*int64(i) + 3*int64(k)
			a[i][k] = (at*at*(seed+11)+at*37+5)%61 - 30
		}
	}
	return a
}

// may are axes whose entries are no greater than they may be.
func may() []axes {
	l := []axes{{}, cone, plane, corners, powers}
	for seed := range int64(30) {
		l = append(l, small(seed))
	}
	return l
}

// every are axes of all kinds.
func every() []axes { return append(may(), far, turning) }

// numbers are edges: 0, the ends of the program's own limits, the roots of the room, and its ends.
func numbers() []int64 {
	l := []int64{0, 1, 2, 3, 1 << 20, api.MaxRead, 1<<31 - 1, 1 << 32, 3037000500, 1 << 62, greatest - 1, greatest}
	for _, x := range l[1:] {
		l = append(l, -x)
	}
	return append(l, least)
}

// allThere are readings of every source.
func allThere(value [12]int64) api.Read {
	r := api.Read{Value: value}
	for i := range r.There {
		r.There[i] = true
	}
	return r
}

// reads are readings near 0, as great as they may be, and at the ends of the room, all There.
func reads() []api.Read {
	l := []api.Read{
		allThere([12]int64{}),
		allThere([12]int64{1, 2, 3, 4, 5, 6, 7, 8, 9, 10, 11, 12}),
		allThere([12]int64{0, 0, 0, 0, 0, 0, 9, 9, 9, 9, 9, 9}),
		allThere([12]int64{greatest, greatest, greatest, greatest, greatest, greatest, 5}),
		allThere([12]int64{least, least, least, least, least, least, 5}),
		allThere([12]int64{api.MaxRead, -api.MaxRead, api.MaxRead, -api.MaxRead, api.MaxRead, -api.MaxRead, 5}),
	}
	n := numbers()
	for i := range n {
		var value [12]int64
		for k := range value {
			value[k] = n[(3*i+5*k+k*k)%len(n)]
		}
		l = append(l, allThere(value))
	}
	return l
}

// only is r with just those readings There whose bits the set has.
func only(r api.Read, set int) api.Read {
	for i := range r.There {
		r.There[i] = set>>i&1 == 1
	}
	return r
}

// turned is x modulo 2^64, as a number with a sign.
func turned(x *big.Int) int64 {
	turn := new(big.Int).Lsh(big.NewInt(1), 64)
	return int64(new(big.Int).Mod(x, turn).Uint64())
}

// product is of all its numbers.
func product(l ...int64) *big.Int {
	p := big.NewInt(1)
	for _, x := range l {
		p.Mul(p, big.NewInt(x))
	}
	return p
}

// sum is of all its numbers.
func sum(l ...*big.Int) *big.Int {
	s := new(big.Int)
	for _, x := range l {
		s.Add(s, x)
	}
	return s
}

// det is the determinant of three rows, modulo 2^64.
func det(a, b, c api.Vec) int64 {
	plus := sum(product(a[0], b[1], c[2]), product(a[1], b[2], c[0]), product(a[2], b[0], c[1]))
	less := sum(product(a[2], b[1], c[0]), product(a[0], b[2], c[1]), product(a[1], b[0], c[2]))
	return turned(plus.Sub(plus, less))
}

// size is fixq.Abs.
func size(x int64) int64 {
	switch {
	case x == least:
		return greatest
	case x < 0:
		return -x
	}
	return x
}

// fours are the gyros that each pair leaves, in the pairs' order.
var fours = [15][4]int{
	{2, 3, 4, 5}, {1, 3, 4, 5}, {1, 2, 4, 5}, {1, 2, 3, 5}, {1, 2, 3, 4},
	{0, 3, 4, 5}, {0, 2, 4, 5}, {0, 2, 3, 5}, {0, 2, 3, 4},
	{0, 1, 4, 5}, {0, 1, 3, 5}, {0, 1, 3, 4},
	{0, 1, 2, 5}, {0, 1, 2, 4},
	{0, 1, 2, 3},
}

// row is the parity of the pair's four, by its four determinants.
func row(a axes, pair int) api.Row {
	var w api.Row
	four := fours[pair]
	p, q, r, s := a[four[0]], a[four[1]], a[four[2]], a[four[3]]
	w[four[0]] = det(q, r, s)
	w[four[1]] = -det(p, r, s)
	w[four[2]] = det(p, q, s)
	w[four[3]] = -det(p, q, r)
	return w
}

// limit is Eps times the sizes of a row's factors.
func limit(eps int64, w api.Row) int64 {
	all := new(big.Int)
	for _, factor := range w {
		all.Add(all, big.NewInt(size(factor)))
	}
	return turned(all.Mul(all, big.NewInt(eps)))
}

// value is what a row makes of readings.
func value(w api.Row, r api.Read) int64 {
	all := new(big.Int)
	for n, factor := range w {
		all.Add(all, product(factor, r.Value[n]))
	}
	return turned(all)
}

// above is the size of what a row makes of readings, less its limit.
func above(eps int64, w api.Row, r api.Read) int64 {
	n := big.NewInt(size(value(w, r)))
	return turned(n.Sub(n, big.NewInt(limit(eps, w))))
}

// reading is what the axes read of a rate.
func reading(a axes, rate api.Vec) api.Read {
	var value [12]int64
	for n, axis := range a {
		value[n] = axis[0]*rate[0] + axis[1]*rate[1] + axis[2]*rate[2]
	}
	return allThere(value)
}

// known is a configuration of which just axes and Eps are known.
func known(a axes, eps int64) api.Config { return api.Config{Axes: a, Eps: eps} }

// P20.1: Eps times all sizes; nothing of what is no pair.
func TestP1LimitByHand(t *testing.T) {
	for _, c := range []struct {
		c    api.Config
		pair int
		want int64
	}{
		{config.Usual(), 14, 7605},
		{known(cone, 0), 14, 0},
		{known(cone, 1), 14, 2535},
		{known(cone, -1), 14, -2535},
		{known(cone, 1<<20), 14, 2535 << 20},
		{known(powers, 5), 0, 80},
		{known(powers, 5), 14, 80},
		{known(powers, 5), 7, 360},
		{known(plane, 5), 3, 0},
		{known(powers, 1<<60), 0, 0},
		{known(powers, 1<<59), 0, least},
		{known(powers, greatest), 0, -16},
		{known(powers, least), 0, 0},
	} {
		is(t, call("Limit", c.c, c.pair), parity.Limit(c.c, c.pair), c.want)
	}
	for _, pair := range noPairs {
		is(t, call("Limit", pair), parity.Limit(config.Usual(), pair), 0)
	}
}

// P20.1, of axes of all kinds, with all pairs.
func TestP1Limit(t *testing.T) {
	for _, a := range every() {
		for _, eps := range numbers() {
			for pair := range 15 {
				is(t, call("Limit", a, eps, pair), parity.Limit(known(a, eps), pair), limit(eps, row(a, pair)))
			}
			for _, pair := range noPairs {
				is(t, call("Limit", a, eps, pair), parity.Limit(known(a, eps), pair), 0)
			}
		}
	}
}

// P20.2: each of the four counts by its factor, the pair's own readings and the air's do not.
func TestP2ResidualByHand(t *testing.T) {
	c := config.Usual()
	for _, r := range []struct {
		value [12]int64
		want  int64
	}{
		{[12]int64{}, 0},
		{[12]int64{1}, 305},
		{[12]int64{0, 1}, -815},
		{[12]int64{0, 0, 1}, 875},
		{[12]int64{0, 0, 0, 1}, -540},
		{[12]int64{0, 0, 0, 0, 1000, 1000, 1000, 1000, 1000, 1000, 1000, 1000}, 0},
		{[12]int64{10, 5, -5, -10, 77, 99}, 0},
		{[12]int64{1, 1, 1, 1}, -175},
	} {
		is(t, call("Residual", r.value), residual(c, 14, allThere(r.value)), told{r.want, true})
	}
	is(t, call("Residual"), residual(known(powers, 5), 7, allThere([12]int64{1, 10, 100, 1000, 10000, 100000})), told{6 - 3000 + 30000 - 600000, true})
	is(t, call("Residual in one plane"), residual(known(plane, 5), 3, allThere([12]int64{1, 2, 3, 4, 5, 6})), told{0, true})
}

// P20.2, P20.3: all sets of readings: there is a parity just if the four read, whoever else does.
func TestP2There(t *testing.T) {
	c := config.Usual()
	for _, r := range []api.Read{reads()[1], reads()[5], reads()[9]} {
		for set := range 1 << 12 {
			some := only(r, set)
			for pair, four := range fours {
				var want, wantExcess told
				if some.There[four[0]] && some.There[four[1]] && some.There[four[2]] && some.There[four[3]] {
					want = told{value(row(cone, pair), r), true}
					wantExcess = told{above(3, row(cone, pair), r), true}
				}
				is(t, call("Residual", pair, some), residual(c, pair, some), want)
				is(t, call("Excess", pair, some), excess(c, pair, some), wantExcess)
			}
		}
	}
}

// P20.2, P20.3: of what is no pair there is no parity, whoever reads.
func TestP2NoPair(t *testing.T) {
	for _, a := range every() {
		for _, r := range reads() {
			for _, pair := range noPairs {
				is(t, call("Residual", a, pair, r), residual(known(a, 3), pair, r), told{})
				is(t, call("Excess", a, pair, r), excess(known(a, 3), pair, r), told{})
				is(t, call("Excess", a, pair), excess(known(a, 3), pair, api.Read{}), told{})
			}
		}
	}
}

// P20.2, of axes and readings of all kinds.
func TestP2Residual(t *testing.T) {
	for _, a := range every() {
		for pair := range fours {
			w := row(a, pair)
			for _, r := range reads() {
				is(t, call("Residual", a, pair, r), residual(known(a, 3), pair, r), told{value(w, r), true})
			}
		}
	}
}

// P20.3: the residual's size, either way, less the limit.
func TestP3ExcessByHand(t *testing.T) {
	unit := axes{{1, 0, 0}, {0, 1, 0}, {0, 0, 1}, {}, {}, {}} // of the pair 14 the last factor alone is not 0: -1
	for _, c := range []struct {
		c     api.Config
		pair  int
		value [12]int64
		want  int64
	}{
		{config.Usual(), 14, [12]int64{}, -7605},
		{config.Usual(), 14, [12]int64{100}, 30500 - 7605},
		{config.Usual(), 14, [12]int64{-100}, 30500 - 7605},
		{config.Usual(), 14, [12]int64{0, 100}, 81500 - 7605},
		{config.Usual(), 14, [12]int64{3, -3, 3, -3}, 0},
		{config.Usual(), 14, [12]int64{-3, 3, -3, 3}, 0},
		{config.Usual(), 14, [12]int64{4, -3, 3, -3}, 305},
		{config.Usual(), 14, [12]int64{3, -3, 3, -4}, 540},
		{known(plane, 5), 3, [12]int64{1, 2, 3, 4, 5, 6}, 0},
		{known(unit, 0), 14, [12]int64{0, 0, 0, greatest}, greatest},
		{known(unit, 0), 14, [12]int64{0, 0, 0, least}, greatest},
		{known(unit, 1), 14, [12]int64{0, 0, 0, least}, greatest - 1},
		{known(unit, -1), 14, [12]int64{0, 0, 0, least}, least},
		{known(unit, -2), 14, [12]int64{0, 0, 0, greatest}, least + 1},
		{known(unit, greatest), 14, [12]int64{}, -greatest},
		{known(unit, least), 14, [12]int64{}, least},
	} {
		is(t, call("Excess", c.c, c.pair, c.value), excess(c.c, c.pair, allThere(c.value)), told{c.want, true})
	}
}

// P20.3, of axes, Eps and readings of all kinds.
func TestP3Excess(t *testing.T) {
	for _, a := range every() {
		for pair := range fours {
			w := row(a, pair)
			for i, r := range reads() {
				for _, eps := range []int64{0, 3, 1 << 20, numbers()[i%len(numbers())]} {
					is(t, call("Excess", a, eps, pair, r), excess(known(a, eps), pair, r), told{above(eps, w, r), true})
				}
			}
		}
	}
}

// P20.4: each pair's excess in its place, and 0 of those that there are not.
func TestP4All(t *testing.T) {
	for i, r := range reads() {
		a := every()[i]
		for set := range 64 {
			some := only(r, set)
			var want [15]int64
			var wantIs [15]bool
			for pair, four := range fours {
				if some.There[four[0]] && some.There[four[1]] && some.There[four[2]] && some.There[four[3]] {
					want[pair], wantIs[pair] = above(3, row(a, pair), r), true
				}
			}
			got, gotIs := parity.All(known(a, 3), some)
			is(t, call("All", a, some), got, want)
			is(t, call("whether there are All", a, some), gotIs, wantIs)
		}
	}
}

// P20.4: who is silent takes all pairs but those that it is in.
func TestP4Silent(t *testing.T) {
	for gone := range 6 {
		_, got := parity.All(config.Usual(), only(reads()[1], 63&^(1<<gone)))
		for place, pair := range geom.Pairs() {
			is(t, call("whether there are All", gone, pair), got[place], pair[0] == gone || pair[1] == gone)
		}
	}
}

// P20.5: each pair's factors.
func TestP5Table(t *testing.T) {
	is(t, call("Table"), parity.Table(config.Usual())[14], api.Row{305, -815, 875, -540, 0, 0})
	is(t, call("Table"), parity.Table(known(plane, 3)), [15]api.Row{})
	for _, a := range every() {
		var want [15]api.Row
		for pair := range want {
			want[pair] = row(a, pair)
		}
		is(t, call("Table", a), parity.Table(known(a, 3)), want)
		is(t, call("Table, whatever Eps is", a), parity.Table(known(a, least)), want)
	}
}

// P20.6: a gyro's factors, 0 where the pair has it; none of what is no gyro, also of the air's sources.
func TestP6Sign(t *testing.T) {
	is(t, call("Sign", 3), parity.Sign(known(powers, 3), 3), [15]int64{-6, -12, 0, 12, 6, -20, 0, 30, 16, 0, 20, 12, 0, 0, -2})
	for _, a := range every() {
		for i := range 6 {
			var want [15]int64
			for pair := range want {
				want[pair] = row(a, pair)[i]
			}
			is(t, call("Sign", a, i), parity.Sign(known(a, 3), i), want)
		}
		for _, i := range noGyros {
			is(t, call("Sign", a, i), parity.Sign(known(a, 3), i), [15]int64{})
		}
	}
}

// P20.7: that source's reading alone is another one, There or not; who is There stays.
func TestP7Shift(t *testing.T) {
	for _, r := range append(reads(), api.Read{}, only(reads()[1], 0), only(reads()[1], 1<<3|1<<7), only(reads()[1], 4095&^(1<<5|1<<11))) {
		kept := r
		for _, by := range numbers() {
			for i := range 12 {
				want := r
				want.Value[i] = turned(sum(big.NewInt(r.Value[i]), big.NewInt(by)))
				is(t, call("Shift", r, i, by), parity.Shift(r, i, by), want)
				is(t, call("what was handed in", i, by), r, kept)
			}
			for _, i := range noSources {
				is(t, call("Shift", r, i, by), parity.Shift(r, i, by), r)
			}
		}
	}
}

// rates are rates near 0, and as great as they may be.
func rates() []api.Vec {
	return []api.Vec{
		{}, {1, 0, 0}, {0, 1, 0}, {0, 0, 1}, {-3, 5, 7}, {1000, -2000, 300},
		{api.MaxRate, -api.MaxRate, api.MaxRate}, {api.MaxRate, api.MaxRate, api.MaxRate}, {-api.MaxRate, 0, api.MaxRate},
	}
}

// offs hands out all that four readings may be off by: nothing, a part, and all, either way.
func offs(eps int64, out func(off [4]int64)) {
	by := []int64{-eps, -eps / 2, 0, eps / 3, eps}
	for n := range 625 {
		out([4]int64{by[n/125], by[n/25%5], by[n/5%5], by[n%5]})
	}
}

// P20.8: four readings that are off by at most Eps are never in excess, whatever both others read.
func TestP8NoExcess(t *testing.T) {
	for _, a := range may() {
		for _, eps := range []int64{0, 1, 3, 1 << 20} {
			c := known(a, eps)
			for k, rate := range rates() {
				for step := range 3 { // each rate with three of the fifteen pairs: over all of them each pair comes
					pair := (5*step + k) % 15
					r := reading(a, rate)
					for _, out := range geom.Pairs()[pair] {
						r.Value[out] = greatest
					}
					offs(eps, func(off [4]int64) {
						some := r
						for place, n := range fours[pair] {
							some.Value[n] += off[place]
						}
						got := excess(c, pair, some)
						if !got.is || got.n > 0 {
							t.Fatalf("%s: %+v, want none above 0", call("Excess", a, eps, pair, some), got)
						}
					})
				}
			}
		}
	}
}

// P20.8: no limit that is less would do: off by Eps, each as its factor's sign is, all just reaches it, and one more is above it.
func TestP8JustReached(t *testing.T) {
	for _, a := range may() {
		for _, eps := range []int64{0, 1, 3, 1 << 20} {
			c := known(a, eps)
			for pair, four := range fours {
				w := row(a, pair)
				r := reading(a, api.Vec{-3, 5, 7})
				for n, factor := range w {
					r.Value[n] += eps * sign(factor)
				}
				is(t, call("Excess", a, eps, pair, r), excess(c, pair, r), told{0, true})
				for _, n := range four {
					more := parity.Shift(r, n, sign(w[n]))
					is(t, call("Excess", a, eps, pair, more), excess(c, pair, more), told{size(w[n]), true})
				}
			}
		}
	}
}

// sign is -1, 0 or 1, as x is.
func sign(x int64) int64 {
	switch {
	case x < 0:
		return -1
	case x > 0:
		return 1
	}
	return 0
}

// P20.9: what a source is shifted by shifts each residual by as often its factor; the air's sources shift none.
func TestP9Shifted(t *testing.T) {
	for _, a := range every() {
		c := known(a, 3)
		for k, r := range reads() {
			by := numbers()[(k*7+3)%len(numbers())]
			for i := -1; i < 13; i++ {
				shifted, signs := parity.Shift(r, i, by), parity.Sign(c, i)
				for pair := range fours {
					was := residual(c, pair, r)
					want := turned(sum(big.NewInt(was.n), product(by, signs[pair])))
					is(t, call("Residual", a, pair, shifted), residual(c, pair, shifted), told{want, true})
				}
			}
		}
	}
}

// P20.9: where a reading is not There no shift of it makes a parity of it, nor changes others.
func TestP9NotThere(t *testing.T) {
	c := config.Usual()
	for i := range 6 {
		r := only(reads()[1], 63&^(1<<i))
		shifted := parity.Shift(r, i, 1000)
		for pair := range fours {
			is(t, call("Residual", pair, shifted), residual(c, pair, shifted), residual(c, pair, r))
		}
	}
}

// The chapter's example: without a reading there is no parity of it.
func TestExample(t *testing.T) {
	excess, there := parity.All(config.Usual(), api.Read{})
	is(t, call("All of no reading"), excess, [15]int64{})
	is(t, call("whether there are All of no reading"), there, [15]bool{})
	is(t, call("Residual of no reading"), residual(config.Usual(), 0, api.Read{}), told{})
}
