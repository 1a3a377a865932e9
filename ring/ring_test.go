package ring_test

import (
	"fmt"
	"math"
	"math/big"
	"slices"
	"strings"
	"testing"

	"teetotum/api"
	"teetotum/ring"
)

const (
	most   int64 = math.MaxInt64
	lowest int64 = math.MinInt64
)

// asked is a call, written out only where it is told.
type asked struct {
	name string
	args []any
}

func call(name string, args ...any) asked { return asked{name, args} }

func (a asked) String() string {
	var words []string
	for _, x := range a.args {
		words = append(words, fmt.Sprintf("%+v", x))
	}
	return a.name + " of " + strings.Join(words, ", ")
}

// is fails if got is not want.
func is[T comparable](t *testing.T, what asked, got, want T) {
	t.Helper()
	if got != want {
		t.Fatalf("%s: %+v, want %+v", what, got, want)
	}
}

// are fails if got has not just what want has, in its order.
func are(t *testing.T, what asked, got, want []api.Read) {
	t.Helper()
	if !slices.Equal(got, want) {
		t.Fatalf("%s: %+v, want %+v", what, got, want)
	}
}

// mixed is readings of all sorts, another one of each seed: of some sources that do not read there is a Value, too.
func mixed(seed int) api.Read {
	var r api.Read
	for i := range r.Value {
		n := (seed*12+i)*7919 + seed*seed*13
		r.Value[i], r.There[i] = int64(n%401-200), n%3 != 0
	}
	return r
}

// some is n readings.
func some(seed, n int) []api.Read {
	var l []api.Read
	for k := range n {
		l = append(l, mixed(seed+k))
	}
	return l
}

// pushed fails if Push answers anything but want and gone, or changes the list.
func pushed(t *testing.T, l []api.Read, r api.Read, want []api.Read, gone api.Read, goes bool) []api.Read {
	t.Helper()
	kept := slices.Clone(l)
	got, old, did := ring.Push(l, r)
	are(t, call("Push", l, r), got, want)
	is(t, call("what goes of Push", l, r), old, gone)
	is(t, call("whether one goes of Push", l, r), did, goes)
	are(t, call("the list behind Push", l, r), l, kept)
	return got
}

// told is a reading, or a number, and whether there is one.
type told[T any] struct {
	what T
	is   bool
}

func last(l []api.Read, n int) told[api.Read] {
	r, is := ring.Last(l, n)
	return told[api.Read]{r, is}
}

func mean(l []api.Read, i int) told[int64] {
	n, is := ring.Mean(l, i)
	return told[int64]{n, is}
}

// noSource are numbers that no source has.
var noSource = []int{math.MinInt, -256, -12, -1, 12, 13, 24, 255, 256, 1 << 32, math.MaxInt - 11, math.MaxInt}

// P27.1: up to eight there is room: it is behind them, and none goes.
func TestP1PushRoom(t *testing.T) {
	a, b, c := mixed(1), mixed(2), mixed(3)
	pushed(t, nil, a, []api.Read{a}, api.Read{}, false)
	pushed(t, []api.Read{}, a, []api.Read{a}, api.Read{}, false)
	pushed(t, []api.Read{a}, b, []api.Read{a, b}, api.Read{}, false)
	pushed(t, []api.Read{b, a}, c, []api.Read{b, a, c}, api.Read{}, false)
	pushed(t, []api.Read{b, b}, b, []api.Read{b, b, b}, api.Read{}, false)
	pushed(t, []api.Read{a}, api.Read{}, []api.Read{a, {}}, api.Read{}, false)
	l := some(5, 7)
	pushed(t, l, c, []api.Read{l[0], l[1], l[2], l[3], l[4], l[5], l[6], c}, api.Read{}, false)
}

// P27.1: the ninth lets the first one go.
func TestP1PushFull(t *testing.T) {
	l, r := some(9, 8), mixed(90)
	pushed(t, l, r, []api.Read{l[1], l[2], l[3], l[4], l[5], l[6], l[7], r}, l[0], true)
	l[0] = api.Read{}
	pushed(t, l, r, []api.Read{l[1], l[2], l[3], l[4], l[5], l[6], l[7], r}, api.Read{}, true)
	same := slices.Repeat([]api.Read{r}, 8)
	pushed(t, same, r, same, r, true)
}

// P27.1: just the first one goes, also where the list was too long already.
func TestP1PushTooMany(t *testing.T) {
	for n := range 40 {
		l, r := some(n*n, n), mixed(-3-n)
		want := slices.Concat(l, []api.Read{r})
		if n < 8 {
			pushed(t, l, r, want, api.Read{}, false)
			continue
		}
		pushed(t, l, r, want[1:], want[0], true)
	}
}

// P27.1: what is answered is new, and the room behind the list's end stays, and so does that behind what was answered.
func TestP1PushIsNew(t *testing.T) {
	for n := range 20 {
		room := some(4, 40)
		kept := slices.Clone(room)
		for _, end := range []int{n, n + 1, n + 9, 40} {
			l := room[:n:end]
			got, _, _ := ring.Push(l, mixed(77))
			are(t, call("the room behind Push", n, end), room, kept)
			first, _, _ := ring.Push(got, mixed(5))
			second, _, _ := ring.Push(got, mixed(6))
			is(t, call("what was pushed first", n, end), first[len(first)-1], mixed(5))
			is(t, call("what was pushed then", n, end), second[len(second)-1], mixed(6))
			for i := range got[:cap(got)] {
				got[:cap(got)][i] = mixed(1000 + i)
			}
			are(t, call("the list, when the answer was changed", n, end), room, kept)
			is(t, call("what was pushed first, when its list was changed", n, end), first[len(first)-1], mixed(5))
			again, _, _ := ring.Push(l, mixed(77))
			whole := slices.Clone(again)
			for i := range room {
				room[i] = mixed(2000 + i)
			}
			are(t, call("the answer, when the list was changed", n, end), again, whole)
			copy(room, kept)
		}
	}
}

// P27.2: each place in each list, and places that there are not.
func TestP2Last(t *testing.T) {
	a, b, c := mixed(1), mixed(2), mixed(3)
	l := []api.Read{a, b, c}
	is(t, call("Last", l, 0), last(l, 0), told[api.Read]{c, true})
	is(t, call("Last", l, 1), last(l, 1), told[api.Read]{b, true})
	is(t, call("Last", l, 2), last(l, 2), told[api.Read]{a, true})
	for n := range 20 {
		l := some(n, n)
		for i, r := range l {
			is(t, call("Last", l, n-1-i), last(l, n-1-i), told[api.Read]{r, true})
		}
		for _, no := range []int{n, n + 1, n + 8, math.MaxInt - n, math.MaxInt, -1, -2, -n - 1, math.MinInt, math.MinInt + n} {
			is(t, call("Last", l, no), last(l, no), told[api.Read]{})
		}
	}
	is(t, call("Last", "nothing"), last(nil, 0), told[api.Read]{})
	is(t, call("Last", "no readings"), last([]api.Read{}, 0), told[api.Read]{})
	is(t, call("Last", "none that is There"), last([]api.Read{{}}, 0), told[api.Read]{is: true})
	is(t, call("Last", "the room behind the end"), last(some(1, 9)[:2], 0), told[api.Read]{mixed(2), true})
}

// others are bits of a set that say nothing.
var others = []int{0, 64, 1 << 6 * 63, 1 << 20, math.MinInt, -64}

// P27.3: all sets of gyros: of these there is no reading, and no Value; all the others are as they were.
func TestP3Keep(t *testing.T) {
	for set := range 64 {
		for seed := range 30 {
			r := mixed(seed)
			want := r
			for i, bit := range []int{1, 2, 4, 8, 16, 32} {
				if set&bit != 0 {
					want.Value[i], want.There[i] = 0, false
				}
			}
			for _, bits := range others {
				is(t, call("Keep", r, set|bits), ring.Keep(r, set|bits), want)
			}
			is(t, call("Keep, once more", want, set), ring.Keep(want, set), want)
		}
	}
}

// P27.3: written out, with readings at the ends of the room, and baros and pitots that stay.
func TestP3KeepByHand(t *testing.T) {
	r := api.Read{
		Value: [12]int64{most, 1, lowest, 3, 4, -5, 6, 7, 8, 9, lowest, most},
		There: [12]bool{true, true, true, false, true, true, true, true, false, true, true, true},
	}
	is(t, call("Keep", r, "nobody"), ring.Keep(r, 0), r)
	is(t, call("Keep", r, "sources from 6 on"), ring.Keep(r, 0b111111000000), r)
	is(t, call("Keep", r, "0, 2, 3"), ring.Keep(r, 0b001101), api.Read{
		Value: [12]int64{0, 1, 0, 0, 4, -5, 6, 7, 8, 9, lowest, most},
		There: [12]bool{1: true, 4: true, 5: true, 6: true, 7: true, 9: true, 10: true, 11: true},
	})
	nobody := api.Read{
		Value: [12]int64{6: 6, 7, 8, 9, lowest, most},
		There: [12]bool{6: true, 7: true, 9: true, 10: true, 11: true},
	}
	is(t, call("Keep", r, "all"), ring.Keep(r, 63), nobody)
	is(t, call("Keep", r, "all bits"), ring.Keep(r, -1), nobody)
	is(t, call("Keep", "nothing", 63), ring.Keep(api.Read{}, 63), api.Read{})
}

// one is what a source reads in a tick, if it reads.
type one struct {
	value int64
	there bool
}

// course is a list in which the source i reads just that; what the others read is another thing in each tick, or the same in all of them.
func course(i int, ones []one, same bool) []api.Read {
	var l []api.Read
	for k, x := range ones {
		r := mixed(k)
		if same {
			r = mixed(7)
		}
		r.Value[i], r.There[i] = x.value, x.there
		l = append(l, r)
	}
	return l
}

// courses hands out all lists of n of the kinds.
func courses(kinds []one, n int, out func([]one)) {
	list := make([]one, n)
	var more func(k int)
	more = func(k int) {
		if k == n {
			out(list)
			return
		}
		for _, x := range kinds {
			list[k] = x
			more(k + 1)
		}
	}
	more(0)
}

// stuckOf is P27.4's words: so many of the last ones that all of them are There, and none is another one.
func stuckOf(ones []one) int {
	n := 0
	for k := 1; k <= len(ones); k++ {
		all := true
		for _, x := range ones[len(ones)-k:] {
			all = all && x.there && x.value == ones[len(ones)-1].value
		}
		if all {
			n = k
		}
	}
	return n
}

// P27.4: written out, with what stands in the way of more.
func TestP4Stuck(t *testing.T) {
	yes := func(value int64) one { return one{value, true} }
	for _, c := range []struct {
		ones []one
		want int
	}{
		{nil, 0},
		{[]one{yes(5)}, 1},
		{[]one{yes(0)}, 1},
		{[]one{{5, false}}, 0},
		{[]one{{}}, 0},
		{[]one{yes(5), yes(5)}, 2},
		{[]one{yes(4), yes(5)}, 1},
		{[]one{yes(5), yes(4), yes(5)}, 1},
		{[]one{yes(5), {5, false}, yes(5), yes(5)}, 2},
		{[]one{yes(5), yes(5), {5, false}}, 0},
		{[]one{yes(5), yes(5), {}}, 0},
		{[]one{{0, false}, yes(0), yes(0)}, 2},
		{[]one{yes(most), yes(most)}, 2},
		{[]one{yes(lowest), yes(most)}, 1},
		{[]one{yes(-5), yes(5)}, 1},
		{slices.Repeat([]one{yes(lowest)}, 8), 8},
		{slices.Repeat([]one{yes(-1)}, 300), 300},
		{append([]one{yes(1)}, slices.Repeat([]one{yes(-1)}, 8)...), 8},
	} {
		for i := range 12 {
			for _, same := range []bool{false, true} {
				l := course(i, c.ones, same)
				is(t, call("Stuck", l, i), ring.Stuck(l, i), c.want)
			}
		}
	}
}

// P27.4: all lists of up to seven, of two readings and of none, with a Value and without.
func TestP4StuckOfAll(t *testing.T) {
	kinds := []one{{0, true}, {7, true}, {0, false}, {7, false}}
	for n := range 8 {
		courses(kinds, n, func(ones []one) {
			want := stuckOf(ones)
			i := (want + n) % 12
			l := course(i, ones, n%2 == 0)
			is(t, call("Stuck", l, i), ring.Stuck(l, i), want)
		})
	}
}

// P27.4: a source that there is not has no readings.
func TestP4StuckNoSource(t *testing.T) {
	l := slices.Repeat([]api.Read{{There: [12]bool{true, true, true, true, true, true, true, true, true, true, true, true}}}, 5)
	for _, i := range noSource {
		is(t, call("Stuck", l, i), ring.Stuck(l, i), 0)
		is(t, call("Stuck", "nothing", i), ring.Stuck(nil, i), 0)
	}
	for i := range 12 {
		is(t, call("Stuck", l, i), ring.Stuck(l, i), 5)
		is(t, call("Stuck", "nothing", i), ring.Stuck(nil, i), 0)
		is(t, call("Stuck", "the room behind the end", i), ring.Stuck(l[:3], i), 3)
	}
}

// meanOf is P27.5's words, in numbers that have all the room.
func meanOf(ones []one) told[int64] {
	sum, n := new(big.Int), int64(0)
	for _, x := range ones {
		if x.there {
			sum.Add(sum, big.NewInt(x.value))
			n++
		}
	}
	if n == 0 {
		return told[int64]{}
	}
	return told[int64]{sum.Div(sum, big.NewInt(n)).Int64(), true} // by 1 or more Div rounds down
}

// P27.5: written out, with halves and thirds to either side of 0, and sums that have no room in 64 bits.
func TestP5Mean(t *testing.T) {
	yes := func(value int64) one { return one{value, true} }
	for _, c := range []struct {
		ones []one
		want told[int64]
	}{
		{nil, told[int64]{}},
		{[]one{{5, false}}, told[int64]{}},
		{[]one{{}, {9, false}}, told[int64]{}},
		{[]one{yes(0)}, told[int64]{0, true}},
		{[]one{yes(-7)}, told[int64]{-7, true}},
		{[]one{yes(1), yes(2)}, told[int64]{1, true}},
		{[]one{yes(-1), yes(-2)}, told[int64]{-2, true}},
		{[]one{yes(0), yes(-1)}, told[int64]{-1, true}},
		{[]one{yes(0), yes(0), yes(-1)}, told[int64]{-1, true}},
		{[]one{yes(0), yes(0), yes(2)}, told[int64]{0, true}},
		{[]one{yes(3), {100, false}, yes(5)}, told[int64]{4, true}},
		{[]one{{100, false}, yes(3), yes(5), yes(7), {}}, told[int64]{5, true}},
		{[]one{yes(-3), yes(3)}, told[int64]{0, true}},
		{[]one{yes(most), yes(most)}, told[int64]{most, true}},
		{[]one{yes(lowest), yes(lowest), yes(lowest)}, told[int64]{lowest, true}},
		{[]one{yes(lowest), yes(most)}, told[int64]{-1, true}},
		{[]one{yes(most), yes(most), yes(most - 1)}, told[int64]{most - 1, true}},
		{[]one{yes(lowest), yes(lowest), yes(lowest + 1)}, told[int64]{lowest, true}},
		{slices.Repeat([]one{yes(most)}, 300), told[int64]{most, true}},
		{slices.Repeat([]one{yes(lowest)}, 300), told[int64]{lowest, true}},
	} {
		for i := range 12 {
			for _, same := range []bool{false, true} {
				l := course(i, c.ones, same)
				is(t, call("Mean", l, i), mean(l, i), c.want)
			}
		}
	}
}

// P27.5: all lists of up to six: readings near 0 and at the ends of the room, and none.
func TestP5MeanOfAll(t *testing.T) {
	kinds := []one{{-1, true}, {0, true}, {3, true}, {lowest, true}, {most, true}, {5, false}}
	for n := range 7 {
		courses(kinds, n, func(ones []one) {
			want := meanOf(ones)
			i := (int(want.what&15) + n) % 12
			l := course(i, ones, n%2 == 0)
			is(t, call("Mean", l, i), mean(l, i), want)
		})
	}
}

// P27.5: lists that are longer than those that Push makes: all of their readings count.
func TestP5MeanLong(t *testing.T) {
	for n := range 80 {
		var ones []one
		for k := range n {
			ones = append(ones, one{int64(k*k*k - 40*n), (n+k)%4 != 0}, one{most - int64(k), k%2 == 0})
		}
		for i := range 12 {
			l := course(i, ones, n%2 == 0)
			is(t, call("Mean", l, i), mean(l, i), meanOf(ones))
		}
	}
	is(t, call("Mean of nine", 0), mean(course(0, append(slices.Repeat([]one{{9, true}}, 8), one{18, true}), true), 0), told[int64]{10, true})
}

// P27.5: a source that there is not has no readings.
func TestP5MeanNoSource(t *testing.T) {
	l := some(3, 8)
	for k := range l {
		l[k].There = [12]bool{true, true, true, true, true, true, true, true, true, true, true, true}
	}
	for _, i := range noSource {
		is(t, call("Mean", l, i), mean(l, i), told[int64]{})
		is(t, call("Mean", "nothing", i), mean(nil, i), told[int64]{})
	}
	for i := range 12 {
		is(t, call("Mean", "the room behind the end", i), mean(l[:1], i), told[int64]{l[0].Value[i], true})
		is(t, call("Mean", "nothing", i), mean([]api.Read{}, i), told[int64]{})
	}
}

// P27.6: what goes are the oldest ones, in order, and the eight last ones stay.
func TestP6Order(t *testing.T) {
	for _, begin := range [][]api.Read{nil, some(-50, 3), some(-50, 8), some(-50, 12)} {
		all, l := slices.Clone(begin), begin
		var gone []api.Read
		for n := range 60 {
			r := mixed(n)
			var old api.Read
			var goes bool
			l, old, goes = ring.Push(l, r)
			all = append(all, r)
			if goes {
				gone = append(gone, old)
			}
			are(t, call("what went, and what is there", len(begin), n), slices.Concat(gone, l), all)
			is(t, call("how many there are", len(begin), n), len(l), min(len(all), max(8, len(begin))))
			for back := range l {
				is(t, call("Last", len(begin), n, back), last(l, back), told[api.Read]{all[len(all)-1-back], true})
			}
		}
	}
}

// P27.7: a mean is between the least and the greatest reading, whatever they are.
func TestP7Between(t *testing.T) {
	edges := []int64{lowest, lowest + 1, -1 << 62, -3, -2, -1, 0, 1, 2, 3, 1 << 62, most - 1, most}
	for seed := range 4000 {
		var ones []one
		var values []int64
		for k := range seed%8 + 1 {
			x := edges[(seed/3+k*k*5+seed*k)%len(edges)]
			ones = append(ones, one{x, true}, one{edges[k], false})
			values = append(values, x)
		}
		i := seed % 12
		l := course(i, ones, false)
		got := mean(l, i)
		if !got.is || got.what < slices.Min(values) || got.what > slices.Max(values) {
			t.Fatalf("Mean of %v: %+v", values, got)
		}
	}
}

// All calls leave their lists, and the room behind these, as they are.
func TestNothingChanges(t *testing.T) {
	room := some(11, 20)
	kept := slices.Clone(room)
	for n := range room {
		for i := -1; i < 13; i++ {
			ring.Last(room[:n], i)
			ring.Stuck(room[:n], i)
			ring.Mean(room[:n], i)
			are(t, call("the list behind all calls", n, i), room, kept)
		}
	}
}

// The chapter's example: the ninth that is pushed lets the first one go.
func TestExample(t *testing.T) {
	var l []api.Read
	for n := range 9 {
		var old api.Read
		var goes bool
		l, old, goes = ring.Push(l, mixed(n))
		is(t, call("whether one goes", n), goes, n == 8)
		if goes {
			is(t, call("what goes"), old, mixed(0))
		}
	}
	is(t, call("how many stay"), len(l), 8)
}
