package cusum_test

import (
	"fmt"
	"math"
	"math/big"
	"slices"
	"testing"

	"teetotum/api"
	"teetotum/config"
	"teetotum/cusum"
)

const (
	greatest int64 = math.MaxInt64
	least    int64 = math.MinInt64
)

// asked is a call, written out only where it is told.
type asked struct {
	name string
	args []any
}

func call(name string, args ...any) asked { return asked{name, args} }

func (a asked) String() string { return a.name + fmt.Sprint(a.args) }

// is fails if got is not want.
func is[T comparable](t *testing.T, what asked, got, want T) {
	t.Helper()
	if got != want {
		t.Fatalf("%s: %+v, want %+v", what, got, want)
	}
}

// within is x, brought between low and high, as a number of 64 bits.
func within(x *big.Int, low, high int64) int64 {
	switch {
	case x.Cmp(big.NewInt(low)) < 0:
		return low
	case x.Cmp(big.NewInt(high)) > 0:
		return high
	}
	return x.Int64()
}

func sum(a, b int64) *big.Int { return new(big.Int).Add(big.NewInt(a), big.NewInt(b)) }

// stepped is a Step, without any room that ends.
func stepped(count, excess, ceil int64) int64 {
	if ceil < 0 {
		return 0
	}
	return within(sum(count, excess), 0, ceil)
}

// behind are the counts behind each of l, from count on.
func behind(count, ceil int64, l []int64) []int64 {
	var counts []int64
	for _, excess := range l {
		count = stepped(count, excess, ceil)
		counts = append(counts, count)
	}
	return counts
}

// opposite is -x, of the least number the greatest.
func opposite(x int64) int64 { return within(new(big.Int).Neg(big.NewInt(x)), least, greatest) }

// less is x less slack, as chapter 1 adds.
func less(x, slack int64) int64 { return within(sum(x, opposite(slack)), least, greatest) }

// quotient is a / b, rounded down, of a b above 0.
func quotient(a, b int64) int64 { return new(big.Int).Div(big.NewInt(a), big.NewInt(b)).Int64() }

// numbers are edges: 0, the program's own limits, halves of the room, and its ends.
func numbers() []int64 {
	l := []int64{0, 1, 2, 3, 7, 10, 1000, 40000, 1 << 20, api.MaxRead, 1<<31 - 1, 1 << 32, 1<<62 - 1, 1 << 62, greatest - 1, greatest}
	for _, x := range l[1:] {
		l = append(l, -x)
	}
	return append(l, least)
}

// near are all numbers from -most to most.
func near(most int64) []int64 {
	var l []int64
	for x := -most; x <= most; x++ {
		l = append(l, x)
	}
	return l
}

// lists hands out all lists of at most most of the items.
func lists(items []int64, most int, out func(l []int64)) {
	var longer func(l []int64)
	longer = func(l []int64) {
		out(l)
		if len(l) == most {
			return
		}
		for _, x := range items {
			longer(append(slices.Clip(l), x))
		}
	}
	longer(nil)
}

// courses are lists that are longer: rises, falls, saws, and ones at the ends of the room.
func courses() [][]int64 {
	var saw, climb []int64
	for n := range int64(60) {
		saw = append(saw, n*n%11-4)
		climb = append(climb, 1000-n%3)
	}
	return [][]int64{
		saw, climb, slices.Repeat([]int64{-5}, 9), slices.Repeat([]int64{0}, 9),
		{greatest, greatest, least, 1, greatest}, {least, least, greatest, least, 5}, {greatest, least, greatest, least},
		{40000, -40000, 39999, 1, -1}, {1 << 62, 1 << 62, 1 << 62, -1 << 62},
	}
}

// P21.1: added, not below 0, and not above the ceiling, which is not below 0 either.
func TestP1StepByHand(t *testing.T) {
	for _, c := range []struct{ count, excess, ceil, want int64 }{
		{0, 0, 10, 0},
		{0, 4, 10, 4},
		{4, -1, 10, 3},
		{3, 9, 10, 10},
		{9, 1, 10, 10},
		{9, 2, 10, 10},
		{10, 1, 10, 10},
		{10, -3, 10, 7},
		{3, -3, 10, 0},
		{3, -4, 10, 0},
		{0, -1, 10, 0},
		{5, 5, 0, 0},
		{5, 5, -1, 0},
		{0, 0, -7, 0},
		{-3, 1, -1, 0},
		{5, 5, least, 0},
		{-3, 5, 10, 2},
		{-3, 2, 10, 0},
		{20, 0, 10, 10},
		{20, -5, 10, 10},
		{20, -15, 10, 5},
		{39999, 1, 80000, 40000},
		{greatest, 1, greatest, greatest},
		{1, greatest, greatest, greatest},
		{greatest, greatest, 10, 10},
		{greatest, least, greatest, 0},
		{greatest, -1, greatest, greatest - 1},
		{least, least, greatest, 0},
		{least, greatest, greatest, 0},
		{-1, greatest, greatest, greatest - 1},
	} {
		is(t, call("Step", c.count, c.excess, c.ceil), cusum.Step(c.count, c.excess, c.ceil), c.want)
	}
}

// P21.1, of numbers near 0 and at edges.
func TestP1Step(t *testing.T) {
	for _, l := range [][]int64{near(12), numbers()} {
		for _, count := range l {
			for _, excess := range l {
				for _, ceil := range l {
					is(t, call("Step", count, excess, ceil), cusum.Step(count, excess, ceil), stepped(count, excess, ceil))
				}
			}
		}
	}
}

// P21.2: each step goes on from what the one ahead made, with the ceiling at each; of no excess the count is as it was.
func TestP2StepsByHand(t *testing.T) {
	for _, c := range []struct {
		count, ceil int64
		l           []int64
		want        int64
	}{
		{0, 10, []int64{4, -1, 9, -3}, 7},
		{0, 10, []int64{-3, 9, -1, 4}, 10},
		{0, 100, []int64{4, -1, 9, -3}, 9},
		{0, 10, []int64{-5, 3}, 3},
		{2, 10, []int64{-5, 3}, 3},
		{2, 10, []int64{3, -5}, 0},
		{6, 10, []int64{7}, 10},
		{6, 10, nil, 6},
		{0, 10, nil, 0},
		{20, 10, nil, 20},
		{-20, 10, nil, -20},
		{-20, 10, []int64{0}, 0},
		{20, 10, []int64{0}, 10},
		{5, -1, []int64{3, 3}, 0},
		{5, -1, nil, 5},
		{0, greatest, []int64{greatest, greatest, -1}, greatest - 1},
		{0, greatest, []int64{least, greatest, least, 7}, 7},
	} {
		is(t, call("Steps", c.count, c.ceil, c.l), cusum.Steps(c.count, c.ceil, c.l...), c.want)
	}
	is(t, call("Steps without a list"), cusum.Steps(6, 10), 6)
	is(t, call("Steps of an empty list"), cusum.Steps(6, 10, []int64{}...), 6)
}

// P21.2, of all short lists, and of longer ones.
func TestP2Steps(t *testing.T) {
	hold := func(count, ceil int64, l []int64) {
		t.Helper()
		want := count
		if len(l) > 0 {
			want = behind(count, ceil, l)[len(l)-1]
		}
		is(t, call("Steps", count, ceil, l), cusum.Steps(count, ceil, l...), want)
	}
	lists([]int64{-7, -2, -1, 0, 1, 3, 8}, 4, func(l []int64) {
		for _, count := range []int64{-4, 0, 1, 5, 9, 12} {
			for _, ceil := range []int64{-3, 0, 1, 9, 100} {
				hold(count, ceil, l)
			}
		}
	})
	for _, l := range append(courses(), numbers()) {
		for _, count := range numbers() {
			for _, ceil := range numbers() {
				hold(count, ceil, l)
			}
		}
	}
}

// ticks is what Ticks answers.
type ticks struct {
	n   int64
	err api.Errno
}

func asTicks(n int64, err api.Errno) ticks { return ticks{n, err} }

// P21.3: limit by by, rounded up; neither a limit below 0 nor excesses that are not above 0 may be.
func TestP3TicksByHand(t *testing.T) {
	for _, c := range []struct {
		limit, by int64
		want      ticks
	}{
		{0, 1, ticks{0, api.OK}},
		{0, greatest, ticks{0, api.OK}},
		{1, 1, ticks{1, api.OK}},
		{1, 2, ticks{1, api.OK}},
		{9, 3, ticks{3, api.OK}},
		{10, 3, ticks{4, api.OK}},
		{11, 3, ticks{4, api.OK}},
		{12, 3, ticks{4, api.OK}},
		{40000, 1000, ticks{40, api.OK}},
		{40001, 1000, ticks{41, api.OK}},
		{greatest, 1, ticks{greatest, api.OK}},
		{greatest, 2, ticks{1 << 62, api.OK}},
		{greatest, greatest, ticks{1, api.OK}},
		{greatest - 1, greatest, ticks{1, api.OK}},
		{-1, 1, ticks{0, api.ErrArg}},
		{least, 1, ticks{0, api.ErrArg}},
		{0, 0, ticks{0, api.ErrArg}},
		{5, 0, ticks{0, api.ErrArg}},
		{5, -1, ticks{0, api.ErrArg}},
		{-6, -2, ticks{0, api.ErrArg}},
		{5, least, ticks{0, api.ErrArg}},
		{least, -1, ticks{0, api.ErrArg}},
	} {
		is(t, call("Ticks", c.limit, c.by), asTicks(cusum.Ticks(c.limit, c.by)), c.want)
	}
	is(t, call("Ticks of the usual limit"), asTicks(cusum.Ticks(config.Usual().Limit, 1000)), ticks{40, api.OK})
}

// P21.3, of numbers near 0 and at edges.
func TestP3Ticks(t *testing.T) {
	for _, l := range [][]int64{near(40), numbers()} {
		for _, limit := range l {
			for _, by := range l {
				want := ticks{0, api.ErrArg}
				if limit >= 0 && by >= 1 {
					want = ticks{-quotient(-limit, by), api.OK}
				}
				is(t, call("Ticks", limit, by), asTicks(cusum.Ticks(limit, by)), want)
			}
		}
	}
}

// P21.4, P21.5: where the count is limit first, and the last place ahead of which it was 0, up to there.
func TestP4ReachAndOnsetByHand(t *testing.T) {
	for _, c := range []struct {
		limit, ceil  int64
		l            []int64
		reach, onset int
	}{
		{7, 10, []int64{4, -1, 9, -3}, 2, 0},
		{10, 10, []int64{4, -1, 9, -3}, 2, 0},
		{11, 10, []int64{4, -1, 9, -3}, -1, -1},
		{11, 100, []int64{4, -1, 9, -3}, 2, 0},
		{4, 10, []int64{4, -1, 9, -3}, 0, 0},
		{5, 10, []int64{2, -2, 5}, 2, 2},
		{5, 10, []int64{2, -3, 5}, 2, 2},
		{5, 10, []int64{2, -1, 5}, 2, 0},
		{5, 10, []int64{2, -2, 3, 2}, 3, 2},
		{5, 10, []int64{2, -2, 0, 0, 3, 2}, 5, 4},
		{5, 10, []int64{-1, -1, 3, 0, 2, 9, -20, 9}, 4, 2},
		{5, 10, []int64{5, -5, 5}, 0, 0},
		{5, 10, []int64{4, -9, 4, -9, 4}, -1, -1},
		{1, 10, []int64{0, 0, 0, 1}, 3, 3},
		{1, 10, []int64{0, 0, 0}, -1, -1},
		{0, 10, []int64{-5, 3}, 0, 0},
		{0, 10, []int64{3}, 0, 0},
		{-4, 10, []int64{-5, 3}, 0, 0},
		{least, -1, []int64{0}, 0, 0},
		{0, 10, nil, -1, -1},
		{-4, 10, nil, -1, -1},
		{5, 10, nil, -1, -1},
		{0, -1, []int64{3}, 0, 0},
		{1, 0, []int64{3, 3}, -1, -1},
		{1, -1, []int64{3, 3}, -1, -1},
		{5, 5, []int64{1, 9}, 1, 0},
		{6, 5, []int64{1, 9, 9}, -1, -1},
		{greatest, greatest, []int64{greatest - 1, -1, 1, 1}, 3, 0},
		{greatest, greatest, []int64{greatest - 1, least, greatest}, 2, 2},
		{greatest, greatest, []int64{greatest - 1}, -1, -1},
	} {
		is(t, call("Reach", c.limit, c.ceil, c.l), cusum.Reach(c.limit, c.ceil, c.l...), c.reach)
		is(t, call("Onset", c.limit, c.ceil, c.l), cusum.Onset(c.limit, c.ceil, c.l...), c.onset)
	}
	is(t, call("Reach without a list"), cusum.Reach(0, 10), -1)
	is(t, call("Onset without a list"), cusum.Onset(0, 10), -1)
	is(t, call("Reach of an empty list"), cusum.Reach(0, 10, []int64{}...), -1)
	is(t, call("Onset of an empty list"), cusum.Onset(0, 10, []int64{}...), -1)
}

// reached is the place of the first count that is limit or more.
func reached(limit int64, counts []int64) int {
	return slices.IndexFunc(counts, func(count int64) bool { return count >= limit })
}

// began is the last place, up to reach, ahead of which the count was 0.
func began(reach int, counts []int64) int {
	place := reach
	for place > 0 && counts[place-1] != 0 {
		place--
	}
	return place
}

// eachRise hands out limits, ceilings and lists, with the counts from 0 on.
func eachRise(out func(limit, ceil int64, l, counts []int64)) {
	lists([]int64{-7, -2, 0, 1, 3, 8}, 5, func(l []int64) {
		for _, ceil := range []int64{-3, 0, 1, 4, 100} {
			counts := behind(0, ceil, l)
			for _, limit := range []int64{-3, 0, 1, 3, 4, 5, 9} {
				out(limit, ceil, l, counts)
			}
		}
	})
	for _, l := range append(courses(), numbers()) {
		for _, ceil := range numbers() {
			counts := behind(0, ceil, l)
			for _, limit := range append(numbers(), near(25)...) {
				out(limit, ceil, l, counts)
			}
		}
	}
}

// P21.4, of all short lists, and of longer ones.
func TestP4Reach(t *testing.T) {
	eachRise(func(limit, ceil int64, l, counts []int64) {
		is(t, call("Reach", limit, ceil, l), cusum.Reach(limit, ceil, l...), reached(limit, counts))
	})
}

// P21.5, of all short lists, and of longer ones.
func TestP5Onset(t *testing.T) {
	eachRise(func(limit, ceil int64, l, counts []int64) {
		is(t, call("Onset", limit, ceil, l), cusum.Onset(limit, ceil, l...), began(reached(limit, counts), counts))
	})
}

// both is what Both answers.
type both struct{ up, down int64 }

func asBoth(up, down int64) both { return both{up, down} }

// P21.6: up counts what is above slack, down what is below its opposite.
func TestP6BothByHand(t *testing.T) {
	for _, c := range []struct {
		up, down, x, slack, ceil int64
		want                     both
	}{
		{0, 0, 0, 0, 10, both{0, 0}},
		{0, 0, 5, 0, 10, both{5, 0}},
		{0, 0, -5, 0, 10, both{0, 5}},
		{0, 0, 5, 3, 10, both{2, 0}},
		{0, 0, -5, 3, 10, both{0, 2}},
		{4, 4, 5, 3, 10, both{6, 0}},
		{4, 4, -5, 3, 10, both{0, 6}},
		{4, 9, 5, 3, 10, both{6, 1}},
		{4, 4, 0, 3, 10, both{1, 1}},
		{4, 4, 3, 3, 10, both{4, 0}},
		{4, 4, -3, 3, 10, both{0, 4}},
		{9, 0, 5, 3, 10, both{10, 0}},
		{0, 9, -5, 3, 10, both{0, 10}},
		{0, 0, 0, -3, 10, both{3, 3}},
		{0, 0, 5, -3, 10, both{8, 0}},
		{7, 7, 5, 3, -1, both{0, 0}},
		{-5, -5, 7, 1, 10, both{1, 0}},
		{-5, -5, -7, 1, 10, both{0, 1}},
		{0, 0, greatest, 0, greatest, both{greatest, 0}},
		{0, 0, least, 0, greatest, both{0, greatest}},
		{0, 0, least, 1, greatest, both{0, greatest - 1}},
		{0, 0, greatest, -1, greatest, both{greatest, 0}},
		{0, 0, least, -1, greatest, both{0, greatest}},
		{0, 0, greatest, least, greatest, both{greatest, 0}},
		{0, 0, 0, least, greatest, both{greatest, greatest}},
		{greatest, greatest, 0, greatest, greatest, both{0, 0}},
	} {
		is(t, call("Both", c.up, c.down, c.x, c.slack, c.ceil), asBoth(cusum.Both(c.up, c.down, c.x, c.slack, c.ceil)), c.want)
	}
}

// P21.6, of numbers near 0 and at edges.
func TestP6Both(t *testing.T) {
	for _, l := range [][]int64{near(7), numbers()} {
		for _, x := range l {
			for _, slack := range l {
				for _, ceil := range l {
					for n, up := range l {
						down := l[(n*5+3)%len(l)]
						want := both{stepped(up, less(x, slack), ceil), stepped(down, less(opposite(x), slack), ceil)}
						is(t, call("Both", up, down, x, slack, ceil), asBoth(cusum.Both(up, down, x, slack, ceil)), want)
					}
				}
			}
		}
	}
}

// P21.7: the count by n, rounded down; 0 if there is no tick.
func TestP7DriftByHand(t *testing.T) {
	for _, c := range []struct{ count, n, want int64 }{
		{0, 1, 0},
		{7, 1, 7},
		{7, 2, 3},
		{6, 2, 3},
		{1, 2, 0},
		{-1, 2, -1},
		{-7, 2, -4},
		{-6, 2, -3},
		{7, 8, 0},
		{-7, 8, -1},
		{7, 0, 0},
		{-7, 0, 0},
		{7, -1, 0},
		{7, -2, 0},
		{-7, -2, 0},
		{least, -1, 0},
		{least, 1, least},
		{least, 2, -1 << 62},
		{greatest, 1, greatest},
		{greatest, 2, 1<<62 - 1},
		{greatest, greatest, 1},
		{least, greatest, -2},
		{greatest, least, 0},
		{least, least, 0},
	} {
		is(t, call("Drift", c.count, c.n), cusum.Drift(c.count, c.n), c.want)
	}
}

// P21.7, of numbers near 0 and at edges.
func TestP7Drift(t *testing.T) {
	for _, l := range [][]int64{near(40), numbers()} {
		for _, count := range l {
			for _, n := range l {
				var want int64
				if n >= 1 {
					want = quotient(count, n)
				}
				is(t, call("Drift", count, n), cusum.Drift(count, n), want)
			}
		}
	}
}

// P21.8: excesses that are not above 0 leave a count that is 0 there, whatever the ceiling.
func TestP8NoCount(t *testing.T) {
	lists([]int64{least, -1 << 40, -3, -1, 0}, 5, func(l []int64) {
		for _, ceil := range []int64{least, -1, 0, 1, 10, greatest} {
			is(t, call("Steps", ceil, l), cusum.Steps(0, ceil, l...), 0)
			is(t, call("Reach", ceil, l), cusum.Reach(1, ceil, l...), -1)
			is(t, call("Onset", ceil, l), cusum.Onset(1, ceil, l...), -1)
		}
	})
}

// P21.9: excesses of by or more reach limit within Ticks of both; excesses of just by, and one less of them, do not.
func TestP9Reached(t *testing.T) {
	for limit := int64(0); limit <= 60; limit++ {
		for by := int64(1); by <= 9; by++ {
			n, err := cusum.Ticks(limit, by)
			is(t, call("Ticks", limit, by), err, api.OK)
			for _, ceil := range []int64{limit, limit + 1, 2*limit + by, greatest} {
				just := slices.Repeat([]int64{by}, int(n))
				for _, more := range [][]int64{{0}, {0, 3, 0, 1}, {5, 0}, {greatest - by, 0}} {
					l := slices.Clone(just)
					for place := range l {
						l[place] += more[place%len(more)]
					}
					for _, count := range []int64{0, 1, limit} {
						if got := cusum.Steps(count, ceil, l...); got < limit {
							t.Fatalf("Steps of %d, %d, %d: %d, want %d or more", count, ceil, l, got, limit)
						}
					}
				}
				if n > 0 {
					is(t, call("Reach", limit, ceil, just), cusum.Reach(limit, ceil, just...), int(n-1))
					is(t, call("Reach", limit, ceil, just[1:]), cusum.Reach(limit, ceil, just[1:]...), -1)
				}
			}
		}
	}
}

// P21.10: whatever excess is greater, the count behind is no lower.
func TestP10NeverLower(t *testing.T) {
	lists([]int64{-9, -3, -1, 0, 2, 7}, 4, func(l []int64) {
		for _, ceil := range []int64{-3, 0, 5, 9, 100, greatest} {
			for _, count := range []int64{0, 1, 4, 9} {
				was := cusum.Steps(count, ceil, l...)
				for place := range l {
					for _, by := range []int64{1, 2, 5, 1 << 40} {
						greater := slices.Clone(l)
						greater[place] += by
						if got := cusum.Steps(count, ceil, greater...); got < was {
							t.Fatalf("Steps of %d, %d, %d: %d, want no lower than %d of %d", count, ceil, greater, got, was, l)
						}
					}
				}
			}
		}
	})
}

// P21.10, of one step, at edges.
func TestP10StepNeverLower(t *testing.T) {
	l := slices.Sorted(slices.Values(numbers()))
	for _, count := range l {
		for _, ceil := range l {
			was := int64(0)
			for _, excess := range l {
				got := cusum.Step(count, excess, ceil)
				if got < was {
					t.Fatalf("Step of %d, %d, %d: %d, want no lower than %d", count, excess, ceil, got, was)
				}
				was = got
			}
		}
	}
}

// P21.11: an onset is not behind what it reaches, and what is ahead of it is not needed for that.
func TestP11OnsetAlone(t *testing.T) {
	eachRise(func(limit, ceil int64, l, _ []int64) {
		reach, onset := cusum.Reach(limit, ceil, l...), cusum.Onset(limit, ceil, l...)
		if reach < 0 {
			is(t, call("Onset", limit, ceil, l), onset, -1)
			return
		}
		if onset < 0 || onset > reach {
			t.Fatalf("Onset of %d, %d, %d: %d, want 0 to %d", limit, ceil, l, onset, reach)
		}
		is(t, call("Reach", limit, ceil, l[onset:]), cusum.Reach(limit, ceil, l[onset:]...), reach-onset)
		is(t, call("Onset", limit, ceil, l[onset:]), cusum.Onset(limit, ceil, l[onset:]...), 0)
	})
}

// P21.12: a number no greater than slack, either way, lets neither count: neither gets higher, and what is 0 stays so.
func TestP12Slack(t *testing.T) {
	for slack := int64(0); slack <= 9; slack++ {
		for x := -slack; x <= slack; x++ {
			for _, at := range []both{{0, 0}, {3, 0}, {0, 3}, {10, 7}} {
				got := asBoth(cusum.Both(at.up, at.down, x, slack, 10))
				if got.up > at.up || got.down > at.down {
					t.Fatalf("Both of %+v, %d, %d: %+v, want none higher", at, x, slack, got)
				}
			}
		}
		is(t, call("Both, one above slack", slack), asBoth(cusum.Both(0, 0, slack+1, slack, 10)), both{1, 0})
		is(t, call("Both, one below slack", slack), asBoth(cusum.Both(0, 0, -slack-1, slack, 10)), both{0, 1})
	}
	for _, x := range []int64{greatest, greatest - 1, 1 << 40, 0, -1 << 40, -greatest} {
		is(t, call("Both of the greatest slack", x), asBoth(cusum.Both(0, 0, x, greatest, greatest)), both{})
	}
}

// R3: a list that is handed in is as it was, and so is what lies behind its end.
func TestListsStay(t *testing.T) {
	room := []int64{4, -1, 9, -3, 77, 78}
	l := room[:4]
	cusum.Steps(0, 10, l...)
	cusum.Reach(7, 10, l...)
	cusum.Onset(7, 10, l...)
	is(t, call("the list and its room"), fmt.Sprint(room), "[4 -1 9 -3 77 78]")
}

// The chapter's example.
func TestExample(t *testing.T) {
	is(t, call("Steps"), cusum.Steps(0, 10, 4, -1, 9, -3), 7)
}
