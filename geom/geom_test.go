package geom_test

import (
	"fmt"
	"math"
	"testing"

	"teetotum/api"
	"teetotum/fixq"
	"teetotum/geom"
	"teetotum/vec"
)

const (
	greatest int64 = math.MaxInt64
	least    int64 = math.MinInt64
)

type axes = [6]api.Vec

// asked is a call, written out only where it is told.
type asked struct {
	name string
	args []any
}

func call(name string, args ...any) asked { return asked{name, args} }

func (a asked) String() string { return a.name + " of " + fmt.Sprint(a.args...) }

// is fails if got is not want.
func is[T comparable](t *testing.T, what asked, got, want T) {
	t.Helper()
	if got != want {
		t.Fatalf("%s: %v, want %v", what, got, want)
	}
}

// cone are the chapter's axes.
var cone = axes{{10, 0, 5}, {5, 9, 5}, {-5, 9, 6}, {-10, 1, 5}, {-5, -9, 5}, {6, -9, 5}}

// flat is cone with its last axis in one plane with the first two.
var flat = axes{{10, 0, 5}, {5, 9, 5}, {-5, 9, 6}, {-10, 1, 5}, {-5, -9, 5}, {15, 9, 10}}

// corners are axes with entries as great as they may be.
var corners = axes{{30, 0, 0}, {0, 30, 0}, {0, 0, 30}, {30, 30, 30}, {30, -30, 29}, {-30, 10, 20}}

// numbered are axes whose entries tell whose they are, and at which place.
var numbered = axes{{0, 1, 2}, {10, 11, 12}, {20, 21, 22}, {30, 31, 32}, {40, 41, 42}, {50, 51, 52}}

// every are axes of all kinds: right, in one plane, the same ones, and with entries at the ends of the room.
func every() []axes {
	l := []axes{
		{}, cone, flat, corners, numbered,
		{{1, 0, 0}, {1, 0, 0}, {0, 1, 0}, {0, 0, 1}, {1, 1, 1}, {1, 2, 4}},
		{{1, 0, 0}, {0, 1, 0}, {0, 0, 1}, {1, 1, 1}, {1, 2, 4}, {3, 1, -2}},
		{{greatest, least, 1}, {1, greatest, 2}, {3, 1, least}, {least, least, 5}, {7, 11, 13}, {greatest, 1, 1}},
		{{1 << 21, 0, 0}, {0, 1 << 21, 0}, {0, 0, 1 << 21}, {1, 1 << 21, 1}, {1 << 22, 3, 1}, {1, 1, 1 << 22}},
	}
	for n := range int64(400) {
		var a axes
		for i := range a {
			for k := range a[i] {
				at := n + 7*int64(i) + 3*int64(k)
				a[i][k] = (at*at*(n+11)+at*37+5)%61 - 30
			}
		}
		l = append(l, a)
	}
	return l
}

// eachOrder calls f with all 720 orders of six numbers.
func eachOrder(f func(order [6]int)) {
	var put func(order [6]int, from int)
	put = func(order [6]int, from int) {
		if from == len(order) {
			f(order)
			return
		}
		for k := from; k < len(order); k++ {
			order[from], order[k] = order[k], order[from]
			put(order, from+1)
			order[from], order[k] = order[k], order[from]
		}
	}
	put([6]int{0, 1, 2, 3, 4, 5}, 0)
}

// eachSix calls f with all six numbers from -1 to 6.
func eachSix(f func(order [6]int)) {
	for n := range 1 << 18 {
		var order [6]int
		for place := range order {
			order[place] = n>>(3*place)&7 - 1
		}
		f(order)
	}
}

// hasAll is whether each of 0 to 5 is in order.
func hasAll(order [6]int) bool {
	has := map[int]bool{}
	for _, n := range order {
		has[n] = true
	}
	for n := range 6 {
		if !has[n] {
			return false
		}
	}
	return true
}

// sizes are those of all three of the axes, in the order of three loops, and their numbers.
func sizes(a axes) ([]int64, [][3]int) {
	var l []int64
	var who [][3]int
	for i := 0; i < 6; i++ {
		for j := i + 1; j < 6; j++ {
			for k := j + 1; k < 6; k++ {
				l = append(l, fixq.Abs(vec.Det(a[i], a[j], a[k])))
				who = append(who, [3]int{i, j, k})
			}
		}
	}
	return l, who
}

// with is cone with one entry another one.
func with(i, k int, entry int64) axes {
	a := cone
	a[i][k] = entry
	return a
}

// P9.1: no entry beyond 30, either way, is told before three axes in one plane are.
func TestP1Right(t *testing.T) {
	for _, r := range []struct {
		axes axes
		want api.Errno
	}{
		{cone, api.OK},
		{corners, api.OK},
		{flat, api.ErrFlat},
		{axes{}, api.ErrFlat},
		{axes{{1, 0, 0}, {1, 0, 0}, {0, 1, 0}, {0, 0, 1}, {1, 1, 1}, {1, 2, 4}}, api.ErrFlat},
		{axes{{1, 0, 0}, {0, 1, 0}, {0, 0, 1}, {1, 1, 1}, {1, 2, 4}, {3, 1, -2}}, api.OK},
		{axes{{31, 0, 0}}, api.ErrArg},
		{numbered, api.ErrArg},
	} {
		is(t, call("Right", r.axes), geom.Right(r.axes), r.want)
	}
	for i := range 6 {
		for k := range 3 {
			for _, entry := range []int64{31, -31, 32, 1 << 32, greatest, -greatest, least} {
				is(t, call("Right", with(i, k, entry)), geom.Right(with(i, k, entry)), api.ErrArg)
			}
			for _, entry := range []int64{30, -30} {
				got := geom.Right(with(i, k, entry))
				is(t, call("entries of", with(i, k, entry)), got != api.ErrArg, true)
			}
		}
	}
	eachOrder(func(order [6]int) {
		var a axes
		for place, n := range order {
			a[place] = flat[n]
		}
		is(t, call("Right", a), geom.Right(a), api.ErrFlat)
	})
}

// P9.1: each three axes in one plane are told, whichever these are.
func TestP1RightOfEachThree(t *testing.T) {
	for _, three := range geom.Triples() {
		a := cone
		a[three[2]] = vec.Sub(a[three[0]], a[three[1]])
		is(t, call("Right", a), geom.Right(a), api.ErrFlat)
	}
}

// P9.2: all three, rising, in the order of three loops.
func TestP2Triples(t *testing.T) {
	_, who := sizes(cone)
	for place, three := range geom.Triples() {
		is(t, call("Triples", place), three, who[place])
	}
	is(t, call("Triples"), geom.Triples()[0], [3]int{0, 1, 2})
	is(t, call("Triples"), geom.Triples()[1], [3]int{0, 1, 3})
	is(t, call("Triples"), geom.Triples()[4], [3]int{0, 2, 3})
	is(t, call("Triples"), geom.Triples()[19], [3]int{3, 4, 5})
}

// P9.3: all two, rising, in the order of two loops.
func TestP3Pairs(t *testing.T) {
	place := 0
	for i := range 6 {
		for j := i + 1; j < 6; j++ {
			is(t, call("Pairs", place), geom.Pairs()[place], [2]int{i, j})
			place++
		}
	}
	is(t, call("Pairs"), place, api.Pairs)
}

// What is answered is the caller's own.
func TestP3Own(t *testing.T) {
	triples, pairs, six := geom.Triples(), geom.Pairs(), geom.Cone()
	triples[0][0], pairs[0][0], six[0][0] = 9, 9, 9
	is(t, call("Triples"), geom.Triples()[0], [3]int{0, 1, 2})
	is(t, call("Pairs"), geom.Pairs()[0], [2]int{0, 1})
	is(t, call("Cone"), geom.Cone()[0], api.Vec{10, 0, 5})
}

// P9.4, and the chapter's example: in either order; -1 of what is no pair.
func TestP4Pair(t *testing.T) {
	is(t, call("Pair", 2, 0), geom.Pair(2, 0), 1)
	for place, pair := range geom.Pairs() {
		is(t, call("Pair", pair), geom.Pair(pair[0], pair[1]), place)
		is(t, call("Pair", pair), geom.Pair(pair[1], pair[0]), place)
	}
	for i := -3; i < 10; i++ {
		is(t, call("Pair", i, i), geom.Pair(i, i), -1)
		for _, j := range []int{-7, -1, 6, 7, 100, math.MaxInt, math.MinInt} {
			is(t, call("Pair", i, j), geom.Pair(i, j), -1)
			is(t, call("Pair", j, i), geom.Pair(j, i), -1)
		}
	}
}

// P9.5, and the chapter's example: who is not of the pair; all 0 of what is no pair.
func TestP5Rest(t *testing.T) {
	for _, r := range []struct {
		pair int
		want [4]int
	}{
		{0, [4]int{2, 3, 4, 5}},
		{1, [4]int{1, 3, 4, 5}},
		{4, [4]int{1, 2, 3, 4}},
		{5, [4]int{0, 3, 4, 5}},
		{8, [4]int{0, 2, 3, 4}},
		{11, [4]int{0, 1, 3, 4}},
		{14, [4]int{0, 1, 2, 3}},
		{-1, [4]int{}},
		{15, [4]int{}},
		{16, [4]int{}},
		{math.MaxInt, [4]int{}},
		{math.MinInt, [4]int{}},
	} {
		is(t, call("Rest", r.pair), geom.Rest(r.pair), r.want)
	}
}

// P9.6.
func TestP6Cone(t *testing.T) {
	is(t, call("Cone"), geom.Cone(), cone)
}

// P9.7: the least size of all three, either sign.
func TestP7Worth(t *testing.T) {
	for _, r := range []struct {
		axes axes
		want int64
	}{
		{axes{}, 0},
		{cone, 305},
		{flat, 0},
		{axes{{1, 0, 0}, {0, 1, 0}, {0, 0, 1}, {1, 1, 1}, {1, 2, 4}, {1, 3, 9}}, 1},
		{axes{{0, 1, 0}, {1, 0, 0}, {0, 0, 1}, {1, 1, 1}, {1, 2, 4}, {1, 3, 9}}, 1},
	} {
		is(t, call("Worth", r.axes), geom.Worth(r.axes), r.want)
	}
	for _, a := range every() {
		l, _ := sizes(a)
		want := l[0]
		for _, size := range l {
			want = min(want, size)
		}
		is(t, call("Worth", a), geom.Worth(a), want)
	}
}

// P9.8: at each place the axis that order names there; of all six numbers around the gyros' just their orders are none that err.
func TestP8Order(t *testing.T) {
	got, err := geom.Order(numbered, [6]int{5, 0, 4, 1, 3, 2})
	is(t, call("Order"), got, axes{{50, 51, 52}, {0, 1, 2}, {40, 41, 42}, {10, 11, 12}, {30, 31, 32}, {20, 21, 22}})
	is(t, call("error of Order"), err, api.OK)
	eachSix(func(order [6]int) {
		var want axes
		wantErr := api.ErrArg
		if hasAll(order) {
			wantErr = api.OK
			for place, n := range order {
				want[place] = numbered[n]
			}
		}
		got, err := geom.Order(numbered, order)
		is(t, call("Order", order), got, want)
		is(t, call("error of Order", order), err, wantErr)
	})
	for _, n := range []int{-1, 6, math.MaxInt, math.MinInt} {
		for place := range 6 {
			order := [6]int{0, 1, 2, 3, 4, 5}
			order[place] = n
			got, err := geom.Order(numbered, order)
			is(t, call("Order", order), got, axes{})
			is(t, call("error of Order", order), err, api.ErrArg)
		}
	}
}

// P9.8: of a number that stands there twice its last place; of one that does not, and of no gyro's, nothing.
func TestP8Back(t *testing.T) {
	for _, r := range []struct{ order, want [6]int }{
		{[6]int{0, 1, 2, 3, 4, 5}, [6]int{0, 1, 2, 3, 4, 5}},
		{[6]int{5, 0, 4, 1, 3, 2}, [6]int{1, 3, 5, 4, 2, 0}},
		{[6]int{2, 2, 2, 2, 2, 2}, [6]int{0, 0, 5, 0, 0, 0}},
		{[6]int{1, 0, 1, 0, 4, 6}, [6]int{3, 2, 0, 0, 4, 0}},
		{[6]int{-1, 6, 7, 5, math.MaxInt, math.MinInt}, [6]int{0, 0, 0, 0, 0, 3}},
		{[6]int{6, 6, 6, -1, -1, -1}, [6]int{}},
	} {
		is(t, call("Back", r.order), geom.Back(r.order), r.want)
	}
	eachSix(func(order [6]int) {
		var want [6]int
		for n := range want {
			for place := range order {
				if order[place] == n {
					want[n] = place
				}
			}
		}
		is(t, call("Back", order), geom.Back(order), want)
	})
}

// P9.8: back in order is as it was.
func TestP8OrderAndBack(t *testing.T) {
	eachOrder(func(order [6]int) {
		there, _ := geom.Order(cone, order)
		back, err := geom.Order(there, geom.Back(order))
		is(t, call("Order back", order), back, cone)
		is(t, call("error of Order back", order), err, api.OK)
		is(t, call("Back of Back", order), geom.Back(geom.Back(order)), order)
	})
}

// P9.9: of each gyro the least size of those three that it is of.
func TestP9Spread(t *testing.T) {
	is(t, call("Spread"), geom.Spread(axes{}), [6]int64{})
	is(t, call("Spread"), geom.Spread(flat)[2] > 0, true)
	is(t, call("Spread"), geom.Spread(axes{{1, 0, 0}, {0, 2, 0}, {0, 0, 3}, {1, 1, 1}, {1, 2, 4}, {1, 3, 9}}), [6]int64{2, 2, 3, 2, 2, 2})
	for _, a := range every() {
		l, who := sizes(a)
		got := geom.Spread(a)
		for n := range got {
			want := greatest
			for place, three := range who {
				if three[0] == n || three[1] == n || three[2] == n {
					want = min(want, l[place])
				}
			}
			is(t, call("Spread", a), got[n], want)
		}
	}
	// Beyond the entries that may be a determinant's size is fixq.Abs of what is left modulo 2^64.
	far := axes{{1 << 21, 0, 0}, {0, 1 << 21, 0}, {0, 0, 1 << 21}, {0, 0, 1 << 21}, {0, 0, 1 << 21}, {0, 0, 1 << 21}}
	is(t, call("Det", far), vec.Det(far[0], far[1], far[2]), least)
	is(t, call("Spread", far), geom.Spread(far), [6]int64{})
}

// P9.10: of several that are as near to one plane, the first.
func TestP10Least(t *testing.T) {
	for _, r := range []struct {
		axes axes
		want [3]int
	}{
		{axes{}, [3]int{0, 1, 2}},
		{flat, [3]int{0, 1, 5}},
		{axes{{1, 0, 0}, {0, 1, 0}, {0, 0, 1}, {1, 1, 1}, {1, 2, 4}, {1, 3, 9}}, [3]int{0, 1, 2}},
		{axes{{2, 0, 0}, {0, 2, 0}, {0, 0, 2}, {2, 2, 2}, {2, 4, 7}, {2, 3, 1}}, [3]int{0, 1, 5}},
		{axes{{7, 0, 0}, {0, 7, 0}, {0, 0, 7}, {1, 1, 3}, {1, 3, 2}, {2, 3, 5}}, [3]int{3, 4, 5}},
	} {
		is(t, call("Least", r.axes), geom.Least(r.axes), r.want)
	}
	for _, a := range every() {
		l, who := sizes(a)
		want := 0
		for place, size := range l {
			if size < l[want] {
				want = place
			}
		}
		is(t, call("Least", a), geom.Least(a), who[want])
	}
}

// P9.11: second, third, first; three times it is as it was.
func TestP11Turned(t *testing.T) {
	is(t, call("Turned"), geom.Turned(numbered), axes{{1, 2, 0}, {11, 12, 10}, {21, 22, 20}, {31, 32, 30}, {41, 42, 40}, {51, 52, 50}})
	is(t, call("Turned"), geom.Turned(axes{{greatest, least, -1}}), axes{{least, -1, greatest}})
	for _, a := range every() {
		is(t, call("Turned", a), geom.Turned(geom.Turned(geom.Turned(a))), a)
	}
}

// P9.12: a pair and its Rest are all six, once each.
func TestP12PairsAndRest(t *testing.T) {
	for place, pair := range geom.Pairs() {
		rest := geom.Rest(place)
		is(t, call("Pairs and Rest", place), hasAll([6]int{pair[0], pair[1], rest[0], rest[1], rest[2], rest[3]}), true)
		for k := 1; k < len(rest); k++ {
			is(t, call("Rest", place), rest[k] > rest[k-1], true)
		}
	}
}

// P9.13: with entries that may be, right is what has worth.
func TestP13RightIsWorth(t *testing.T) {
	is(t, call("Right of Cone"), geom.Right(geom.Cone()), api.OK)
	for _, a := range every() {
		right := geom.Right(a)
		if right == api.ErrArg {
			continue
		}
		is(t, call("Right", a), right == api.OK, geom.Worth(a) != 0)
		is(t, call("Right", a), right == api.ErrFlat, geom.Worth(a) == 0)
	}
}

// P9.14: neither another order nor a turn changes the worth, which is the least of Spread.
func TestP14Worth(t *testing.T) {
	for _, a := range every() {
		worth, spread := geom.Worth(a), geom.Spread(a)
		is(t, call("Worth of Turned", a), geom.Worth(geom.Turned(a)), worth)
		is(t, call("least of Spread", a), min(spread[0], spread[1], spread[2], spread[3], spread[4], spread[5]), worth)
		three := geom.Least(a)
		is(t, call("size of Least", a), fixq.Abs(vec.Det(a[three[0]], a[three[1]], a[three[2]])), worth)
	}
	for _, a := range []axes{cone, flat, corners, every()[7]} {
		worth := geom.Worth(a)
		eachOrder(func(order [6]int) {
			other, _ := geom.Order(a, order)
			is(t, call("Worth of Order", a, order), geom.Worth(other), worth)
		})
	}
}
