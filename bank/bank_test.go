package bank_test

import (
	"fmt"
	"math"
	"math/big"
	"slices"
	"strings"
	"testing"

	"teetotum/api"
	"teetotum/bank"
	"teetotum/config"
	"teetotum/geom"
	"teetotum/parity"
)

const (
	greatest int64 = math.MaxInt64
	least    int64 = math.MinInt64
)

// asked is a call, written out only where it is told.
type asked struct {
	name string
	args []any
}

func call(name string, args ...any) asked { return asked{name, args} }

func (a asked) String() string {
	var words []string
	for _, x := range a.args {
		words = append(words, fmt.Sprintf("%+v", x))
	}
	return a.name + " of " + strings.Join(words, ", ")
}

// is fails if got is not want.
func is[T comparable](t *testing.T, what asked, got, want T) {
	t.Helper()
	if got != want {
		t.Fatalf("%s: %+v, want %+v", what, got, want)
	}
}

// list fails if got is not want, item by item; nil is as good as empty.
func list(t *testing.T, what asked, got, want []int) {
	t.Helper()
	if !slices.Equal(got, want) {
		t.Fatalf("%s: %d, want %d", what, got, want)
	}
}

// noPairs are numbers that no pair has.
var noPairs = []int{math.MinInt, -1 << 32, -15, -2, -1, 15, 16, 20, 63, 1 << 32, math.MaxInt}

// fours are the gyros that each pair leaves, in the pairs' order.
var fours = [15][4]int{
	{2, 3, 4, 5}, {1, 3, 4, 5}, {1, 2, 4, 5}, {1, 2, 3, 5}, {1, 2, 3, 4},
	{0, 3, 4, 5}, {0, 2, 4, 5}, {0, 2, 3, 5}, {0, 2, 3, 4},
	{0, 1, 4, 5}, {0, 1, 3, 5}, {0, 1, 3, 4},
	{0, 1, 2, 5}, {0, 1, 2, 4},
	{0, 1, 2, 3},
}

// numbers are edges: 0, the program's own limits, halves of the room, and its ends.
func numbers() []int64 {
	l := []int64{0, 1, 2, 7, 40000, 100000, 1 << 20, 1 << 40, 1 << 50, 1 << 62, greatest - 1, greatest}
	for _, x := range l[1:] {
		l = append(l, -x)
	}
	return append(l, least)
}

// of is a bank with these counts, and with those pairs refuted whose bits the set has.
func of(refuted int, counts ...int64) api.Bank {
	var b api.Bank
	copy(b.Count[:], counts)
	for pair := range b.Refuted {
		b.Refuted[pair] = refuted>>pair&1 == 1
	}
	return b
}

// banks are ones with counts near 0, as they may be, and at the ends of the room, and with some pairs refuted.
func banks() []api.Bank {
	l := []api.Bank{
		{},
		of(1<<15 - 1),
		of(0, 1, 2, 3, 4, 5, 6, 7, 8, 9, 10, 11, 12, 13, 14, 15),
		of(0b101, 40000, 39999, 100000, 1),
		of(1<<14|1<<3, 0, 0, 0, 55000, 0, 0, 0, 0, 100000),
	}
	n := numbers()
	for i := range 2 * len(n) {
		var b api.Bank
		for pair := range b.Count {
			b.Count[pair] = n[(3*i+5*pair+pair*pair)%len(n)]
			b.Refuted[pair] = (i*i+pair*7+i*pair)%3 == 0
		}
		l = append(l, b)
	}
	return l
}

// allThere are readings of every source.
func allThere(value ...int64) api.Read {
	var r api.Read
	copy(r.Value[:], value)
	return only(r, 1<<12-1)
}

// only is r with just those readings There whose bits the set has.
func only(r api.Read, set int) api.Read {
	for i := range r.There {
		r.There[i] = set>>i&1 == 1
	}
	return r
}

// reads are readings near 0, about the limits, and at the ends of the room, all There.
func reads() []api.Read {
	l := []api.Read{
		allThere(),
		allThere(1, 2, 3, 4, 5, 6, 7, 8, 9, 10, 11, 12),
		allThere(100),
		allThere(0, 0, 0, 0, 0, 0, 9, 9, 9, 9, 9, 9),
		allThere(0, -40, 0, 35, 0, 2),
		allThere(greatest, least, greatest, least, greatest, least, 5),
		allThere(api.MaxRead, -api.MaxRead, api.MaxRead, -api.MaxRead, api.MaxRead, -api.MaxRead),
	}
	n := numbers()
	for i := range n {
		var r api.Read
		for k := range r.Value {
			r.Value[k] = n[(7*i+3*k+k*k)%len(n)]
		}
		l = append(l, only(r, 1<<12-1))
	}
	return l
}

// limited is the usual configuration with another limit and another ceiling.
func limited(limit, ceil int64) api.Config {
	c := config.Usual()
	c.Limit, c.Ceil = limit, ceil
	return c
}

// configs are ones that are right, and ones that are not.
func configs() []api.Config {
	loose, flat, far := config.Usual(), config.Usual(), config.Usual()
	loose.Eps = 0
	flat.Axes = [6]api.Vec{}
	far.Eps = least
	far.Axes[2] = api.Vec{greatest, least, 1}
	return []api.Config{
		config.Usual(), loose, flat, far, {},
		limited(1, 1), limited(1<<40, 1<<50), limited(100, 99), limited(0, 0),
		limited(0, -1), limited(-1, -1), limited(least, least), limited(greatest, greatest),
	}
}

// within is x, brought between 0 and high, as a number of 64 bits.
func within(x *big.Int, high int64) int64 {
	switch {
	case high < 0 || x.Sign() < 0:
		return 0
	case x.Cmp(big.NewInt(high)) > 0:
		return high
	}
	return x.Int64()
}

// updated is an Update, pair by pair, by the chapter's words.
func updated(b api.Bank, c api.Config, r api.Read) api.Bank {
	for pair, four := range fours {
		whole := true
		for _, gyro := range four {
			whole = whole && r.There[gyro]
		}
		if !whole {
			continue
		}
		excess, _ := parity.Excess(c, pair, r)
		sum := new(big.Int).Add(big.NewInt(b.Count[pair]), big.NewInt(excess))
		count := within(sum, c.Ceil)
		b.Count[pair] = count
		b.Refuted[pair] = b.Refuted[pair] || count >= c.Limit
	}
	return b
}

// P22.1: of a new bank every test is at 0, and none has refuted.
func TestP1New(t *testing.T) {
	b := bank.New()
	for pair := range api.Pairs {
		is(t, call("New's count", pair), b.Count[pair], 0)
		is(t, call("New's refuted", pair), b.Refuted[pair], false)
	}
	is(t, call("Quiet of New"), bank.Quiet(b), true)
	list(t, call("Refuted of New"), bank.Refuted(b), nil)
}

// four are readings of the gyros 0 to 3 alone, so that only the pair 4, 5 has a test of them. Its factors are 305, -815, 875, -540, and with the usual Eps its limit is 7605.
func four(a, b, c, d int64) api.Read {
	return only(allThere(a, b, c, d), 0b1111)
}

// P22.2: a test goes up by each excess and down by what is missing, between 0 and the ceiling, and has refuted from the limit on.
func TestP2UpdateByHand(t *testing.T) {
	type behind struct {
		read    api.Read
		count   int64
		refuted bool
	}
	for _, course := range []struct {
		c     api.Config
		ticks []behind
	}{
		{config.Usual(), []behind{
			{four(0, 0, 0, 0), 0, false},
			{four(100, 0, 0, 0), 22895, false},
			{four(0, 0, 0, 0), 15290, false},
			{four(-100, 0, 0, 0), 38185, false},
			{four(0, -100, 0, 0), 100000, true},
			{four(0, 0, 0, 0), 92395, true},
		}},
		{config.Usual(), []behind{
			{four(0, 0, 20, 0), 9895, false},
			{four(3, -3, 3, -3), 9895, false},
			{four(-3, 3, -3, 3), 9895, false},
			{four(3, -3, 3, 3), 6655, false},
			{four(0, 0, 0, 0), 0, false},
			{four(0, 0, 0, 0), 0, false},
		}},
		{limited(22895, 50000), []behind{{four(100, 0, 0, 0), 22895, true}, {four(0, 0, 0, 0), 15290, true}, {four(0, 0, 0, 0), 7685, true}, {four(0, 0, 0, 0), 80, true}, {four(0, 0, 0, 0), 0, true}, {four(0, 0, 0, 0), 0, true}}},
		{limited(22896, 50000), []behind{{four(100, 0, 0, 0), 22895, false}, {four(0, 0, 0, 0), 15290, false}}},
		{limited(22894, 50000), []behind{{four(100, 0, 0, 0), 22895, true}}},
		{limited(20000, 20000), []behind{{four(100, 0, 0, 0), 20000, true}, {four(0, 0, 0, 0), 12395, true}}},
		{limited(20000, 20001), []behind{{four(100, 0, 0, 0), 20001, true}}},
		{limited(20001, 20000), []behind{{four(100, 0, 0, 0), 20000, false}, {four(100, 0, 0, 0), 20000, false}}},
		{limited(1, 20000), []behind{{four(0, 0, 0, 0), 0, false}, {four(3, -3, 3, -3), 0, false}, {four(3, -3, 3, -4), 540, true}}},
		{limited(0, 20000), []behind{{four(0, 0, 0, 0), 0, true}}},
		{limited(-1, -1), []behind{{four(0, 0, 0, 0), 0, true}}},
	} {
		var want api.Bank
		b := bank.New()
		for _, tick := range course.ticks {
			was := b
			b = bank.Update(b, course.c, tick.read)
			want.Count[14], want.Refuted[14] = tick.count, tick.refuted
			is(t, call("Update", was, course.c, tick.read), b, want)
		}
	}
}

// P22.2: a drift of one gyro counts in the tests that it is part of, and in no other one.
func TestP2UpdateOneGyro(t *testing.T) {
	for gyro := range api.Gyros {
		var value [12]int64
		value[gyro] = 2000
		b := bank.Update(bank.New(), config.Usual(), allThere(value[:]...))
		for pair, four := range fours {
			part := slices.Contains(four[:], gyro)
			is(t, call("Update's refuted", gyro, pair), b.Refuted[pair], part)
			is(t, call("Update's count", gyro, pair), b.Count[pair] > 0, part)
		}
	}
}

// P22.2, of all sets of readings, all banks, right configurations and others.
func TestP2Update(t *testing.T) {
	for _, c := range configs() {
		for n, b := range banks() {
			for k, r := range reads() {
				set := (n*29 + k*37) % 64
				for _, there := range []int{0b111111, set, set | 1<<11, 1<<(n%12) ^ 0xfff} {
					r := only(r, there)
					is(t, call("Update", b, c, r), bank.Update(b, c, r), updated(b, c, r))
				}
			}
		}
	}
}

// P22.2: just the tests count whose four gyros all have a reading, others stay, also where they are beyond the ceiling, or should refute.
func TestP2UpdateOthersStay(t *testing.T) {
	c := config.Usual()
	full := allThere(300, -200, 100, 5, 70, 900)
	for _, b := range banks() {
		for set := range 1 << 12 {
			if set >= 64 && set&63 != 0 {
				continue
			}
			got := bank.Update(b, c, only(full, set))
			for pair, four := range fours {
				whole := true
				for _, gyro := range four {
					whole = whole && set>>gyro&1 == 1
				}
				if whole {
					continue
				}
				is(t, call("Update's count", b, set, pair), got.Count[pair], b.Count[pair])
				is(t, call("Update's refuted", b, set, pair), got.Refuted[pair], b.Refuted[pair])
			}
		}
	}
}

// P22.2: the sources of the air say nothing.
func TestP2UpdateWithoutAir(t *testing.T) {
	c := config.Usual()
	for _, b := range banks() {
		for _, r := range reads() {
			want := bank.Update(b, c, only(r, 0b111111))
			for i := api.Gyros; i < api.Sources; i++ {
				r.Value[i] = greatest - int64(i)
			}
			is(t, call("Update", b, r), bank.Update(b, c, r), want)
		}
	}
}

// The chapter's example: of readings of nobody all stays as it is.
func TestExample(t *testing.T) {
	for _, c := range configs() {
		for _, b := range banks() {
			is(t, call("Update", b, c), bank.Update(b, c, api.Read{}), b)
			for _, r := range reads() {
				is(t, call("Update", b, c, r), bank.Update(b, c, only(r, 0)), b)
			}
		}
	}
}

// P22.3, of all sets of pairs, whatever they count.
func TestP3Refuted(t *testing.T) {
	for set := range 1 << api.Pairs {
		var want []int
		for pair := range api.Pairs {
			if set&(1<<pair) != 0 {
				want = append(want, pair)
			}
		}
		b := of(set)
		list(t, call("Refuted", b), bank.Refuted(b), want)
		for pair := range b.Count {
			b.Count[pair] = int64(pair*set%7-3) << 50
		}
		list(t, call("Refuted", b), bank.Refuted(b), want)
	}
}

// R3: a list that was answered is nobody else's.
func TestP3RefutedIsNew(t *testing.T) {
	b := of(0b1000_0000_0000_101)
	first := bank.Refuted(b)
	for n := range first {
		first[n] = -7
	}
	list(t, call("Refuted", b), bank.Refuted(b), []int{0, 2, 14})
}

// P22.4: of counts that are alike the first one, whether it has refuted or not.
func TestP4WorstByHand(t *testing.T) {
	for _, c := range []struct {
		b    api.Bank
		want int
	}{
		{of(0), 0},
		{of(1<<15 - 1), 0},
		{of(1 << 9), 0},
		{of(0, 1), 0},
		{of(0, 0, 1), 1},
		{of(0, 0, 1, 1), 1},
		{of(0, 0, 1, 2, 1), 2},
		{of(0, 3, 1, 2, 3), 0},
		{of(1, 3, 1, 2, 1), 0},
		{of(0, 0, 0, 0, 0, 0, 0, 0, 0, 0, 0, 0, 0, 0, 0, 1), 14},
		{of(0, 0, 0, 0, 0, 0, 0, 0, 0, 0, 0, 0, 0, 0, 1, 1), 13},
		{of(0, -1), 1},
		{of(0, -1, -1, -1, -1, -1, -1, -1, -1, -1, -1, -1, -1, -1, -1, -1), 0},
		{of(0, -9, -9, -9, -9, -9, -9, -4, -9, -9, -4, -9, -9, -9, -9, -9), 6},
		{of(0, least, greatest-1, greatest, greatest), 2},
		{of(0, 100000, 100000), 0},
	} {
		is(t, call("Worst", c.b), bank.Worst(c.b), c.want)
	}
}

// P22.4: nobody counts more, and nobody ahead counts as much.
func TestP4Worst(t *testing.T) {
	for _, b := range banks() {
		got := bank.Worst(b)
		is(t, call("Worst", b), got, slices.Index(b.Count[:], slices.Max(b.Count[:])))
		for pair := range b.Count {
			more := b
			more.Count[pair] = greatest
			is(t, call("Worst", more), bank.Worst(more), slices.Index(more.Count[:], greatest))
		}
	}
}

// P22.5: one test that counts, or has refuted, is enough for none to be quiet.
func TestP5Quiet(t *testing.T) {
	is(t, call("Quiet"), bank.Quiet(api.Bank{}), true)
	for pair := range api.Pairs {
		var counts, refuted api.Bank
		refuted.Refuted[pair] = true
		is(t, call("Quiet", refuted), bank.Quiet(refuted), false)
		for _, n := range []int64{1, 2, 40000, 1 << 50, greatest} {
			counts.Count[pair] = n
			is(t, call("Quiet", counts), bank.Quiet(counts), false)
			both := bank.Join(counts, refuted)
			is(t, call("Quiet", both), bank.Quiet(both), false)
		}
		counts.Count[pair] = 0
		is(t, call("Quiet", counts), bank.Quiet(counts), true)
	}
}

// P22.6: what is left up to the limit, at least 0, and 0 where there is no room.
func TestP6LeftByHand(t *testing.T) {
	for _, c := range []struct {
		limit, count, want int64
	}{
		{40000, 0, 40000},
		{40000, 1, 39999},
		{40000, 39999, 1},
		{40000, 40000, 0},
		{40000, 40001, 0},
		{40000, greatest, 0},
		{40000, -1, 40001},
		{1, 0, 1},
		{0, 0, 0},
		{0, -1, 1},
		{-1, 0, 0},
		{-1, -3, 2},
		{greatest, 0, greatest},
		{greatest, 1, greatest - 1},
		{greatest, greatest, 0},
		{greatest, -1, 0},
		{greatest - 1, -1, greatest},
		{greatest - 1, -2, 0},
		{greatest, least, 0},
		{0, least, 0},
		{-1, least, greatest},
		{least, least, 0},
		{least, 1, 0},
		{least, greatest, 0},
		{least + 1, least, 1},
	} {
		for pair := range api.Pairs {
			b := of(1<<15 - 1 ^ 1<<pair)
			b.Count[pair] = c.count
			is(t, call("Left", b, c.limit, pair), bank.Left(b, limited(c.limit, 100000), pair), c.want)
			b.Refuted[pair] = true
			is(t, call("Left", b, c.limit, pair), bank.Left(b, limited(c.limit, 100000), pair), 0)
		}
	}
}

// P22.6, of edges, and of pairs that there are not.
func TestP6Left(t *testing.T) {
	for _, b := range banks() {
		for _, limit := range numbers() {
			for pair := range api.Pairs {
				left := new(big.Int).Sub(big.NewInt(limit), big.NewInt(b.Count[pair]))
				var want int64
				if !b.Refuted[pair] && left.IsInt64() && left.Sign() > 0 {
					want = left.Int64()
				}
				is(t, call("Left", b, limit, pair), bank.Left(b, limited(limit, 100000), pair), want)
			}
			for _, pair := range noPairs {
				is(t, call("Left", b, limit, pair), bank.Left(b, limited(limit, 100000), pair), 0)
			}
		}
	}
}

// P22.6: only the limit is asked, not the ceiling.
func TestP6LeftOfAnyCeiling(t *testing.T) {
	for _, ceil := range numbers() {
		is(t, call("Left", ceil), bank.Left(of(0, 7), limited(100, ceil), 0), 93)
	}
}

// P22.7, P22.10: of each pair what either has more of, in any order.
func TestP7Join(t *testing.T) {
	for _, a := range banks() {
		is(t, call("Join", a, a), bank.Join(a, a), a)
		for _, b := range banks() {
			var want api.Bank
			for pair := range want.Count {
				want.Count[pair] = slices.Max([]int64{a.Count[pair], b.Count[pair]})
				want.Refuted[pair] = a.Refuted[pair] || b.Refuted[pair]
			}
			is(t, call("Join", a, b), bank.Join(a, b), want)
			is(t, call("Join", b, a), bank.Join(b, a), want)
		}
	}
}

// P22.7, of two banks, by hand: who has refuted and who counts need not be the same.
func TestP7JoinByHand(t *testing.T) {
	a := of(0b0011, 5, -3, 0, greatest)
	b := of(0b0101, 4, -2, 9, least)
	is(t, call("Join", a, b), bank.Join(a, b), of(0b0111, 5, -2, 9, greatest))
}

// P22.10: what is joined has refuted all that either has, and of three it is the same in any order.
func TestP10Join(t *testing.T) {
	l := banks()
	for _, a := range l {
		for _, b := range l {
			joined := bank.Join(a, b)
			all := append(bank.Refuted(a), bank.Refuted(b)...)
			slices.Sort(all)
			list(t, call("Refuted of Join", a, b), bank.Refuted(joined), slices.Compact(all))
			for n := 0; n < len(l); n += 5 {
				is(t, call("Join", a, b, l[n]), bank.Join(joined, l[n]), bank.Join(a, bank.Join(l[n], b)))
			}
		}
	}
}

// rates are some that are not beyond most, either way.
func rates(most int64) []api.Vec {
	l := []api.Vec{{}, {most, most, most}, {-most, most, -most}, {most, -most, 0}, {0, 0, -most}}
	for n := range int64(12) {
		l = append(l, api.Vec{(n*n*97 + 13) % most, -(n*n*n*31 + 7) % most, (n*53 - 300) % most})
	}
	return l
}

// offs hands out every way in which the four gyros are off by low, by high, or not at all.
func offs(four [4]int, eps int64, out func(off [6]int64)) {
	for way := range 3 * 3 * 3 * 3 {
		var off [6]int64
		for _, gyro := range four {
			off[gyro] = int64(way%3-1) * eps
			way /= 3
		}
		out(off)
	}
}

// read are readings of all gyros of a rate, off by so much.
func read(axes [6]api.Vec, rate api.Vec, off [6]int64) api.Read {
	var r api.Read
	for n, axis := range axes {
		r.Value[n] = axis[0]*rate[0] + axis[1]*rate[1] + axis[2]*rate[2] + off[n]
		r.There[n] = true
	}
	return r
}

// good are right configurations: with the usual limit, and ones that refute as soon as anything counts.
func good(t *testing.T) []api.Config {
	powers, corners := limited(1, 1), limited(1, 1<<50)
	powers.Axes = [6]api.Vec{{1, 0, 0}, {1, 1, 1}, {1, 2, 4}, {1, 3, 9}, {1, 4, 16}, {1, 5, 25}}
	powers.Eps = 0
	corners.Axes = [6]api.Vec{{30, 0, 0}, {0, 30, 0}, {0, 0, 30}, {30, 30, 30}, {30, -30, 29}, {-30, 10, 20}}
	corners.Eps, corners.Rate = 1<<20, api.MaxRate
	l := []api.Config{config.Usual(), limited(1, 100000), powers, corners}
	for _, c := range l {
		is(t, call("Right", c), config.Right(c), api.OK)
	}
	return l
}

// P22.8: whatever both others read, and whoever reads at all, the test of four good gyros stays quiet.
func TestP8GoodStayQuiet(t *testing.T) {
	for _, c := range good(t) {
		for pair, both := range geom.Pairs() {
			b, tick := bank.New(), 0
			for _, rate := range rates(c.Rate) {
				offs(fours[pair], c.Eps, func(off [6]int64) {
					off[both[0]] = []int64{0, 5000, -1 << 27, 1 << 27}[tick%4]
					off[both[1]] = []int64{1 << 27, -77, 900}[tick%3]
					r := read(c.Axes, rate, off)
					if tick%5 == 4 {
						r.There[tick%api.Gyros] = false
					}
					b = bank.Update(b, c, r)
					tick++
				})
			}
			is(t, call("count", c, pair), b.Count[pair], 0)
			is(t, call("refuted", c, pair), b.Refuted[pair], false)
		}
	}
}

// P22.8: where all six are good the whole bank stays quiet.
func TestP8AllGood(t *testing.T) {
	for _, c := range good(t) {
		b := bank.New()
		for n, rate := range rates(c.Rate) {
			offs(fours[n%api.Pairs], c.Eps, func(off [6]int64) {
				b = bank.Update(b, c, read(c.Axes, rate, off))
			})
		}
		is(t, call("Quiet", b), bank.Quiet(b), true)
	}
}

// P22.8 holds just so far: four gyros that are off by more than Eps, each as its factor has it, count.
func TestP8OneMoreCounts(t *testing.T) {
	c := config.Usual()
	for pair, w := range parity.Table(c) {
		var off [6]int64
		for gyro, factor := range w {
			switch {
			case factor > 0:
				off[gyro] = c.Eps
			case factor < 0:
				off[gyro] = -c.Eps
			}
		}
		rate := api.Vec{-40, 30, 4000}
		is(t, call("count", pair), bank.Update(bank.New(), c, read(c.Axes, rate, off)).Count[pair], 0)
		gyro := fours[pair][pair%4]
		off[gyro] += off[gyro] / c.Eps
		b := bank.Update(bank.New(), c, read(c.Axes, rate, off))
		if b.Count[pair] < 1 {
			t.Fatalf("count of %d: %d, want above 0", pair, b.Count[pair])
		}
	}
}

// P22.9: what has refuted stays so, whatever comes, and however low it counts.
func TestP9Stays(t *testing.T) {
	for _, c := range configs() {
		for _, b := range banks() {
			was := bank.Refuted(b)
			for _, r := range reads() {
				b = bank.Update(b, c, r)
				now := bank.Refuted(b)
				for _, pair := range was {
					if !slices.Contains(now, pair) {
						t.Fatalf("Refuted of %+v: %d, want %d with it", b, now, pair)
					}
				}
				was = now
			}
		}
	}
}

// P22.9: tests that have refuted stay so also where they count nothing any more: the ten of gyro 1.
func TestP9StaysAtZero(t *testing.T) {
	c := config.Usual()
	b := bank.Update(bank.New(), c, allThere(0, 3000))
	ten := []int{1, 2, 3, 4, 9, 10, 11, 12, 13, 14}
	list(t, call("Refuted"), bank.Refuted(b), ten)
	for range 200 {
		b = bank.Update(b, c, allThere())
	}
	is(t, call("counts"), b.Count, [15]int64{})
	list(t, call("Refuted"), bank.Refuted(b), ten)
	is(t, call("Quiet"), bank.Quiet(b), false)
}
