package source_test

import (
	"fmt"
	"math"
	"math/big"
	"strings"
	"testing"

	"teetotum/api"
	"teetotum/config"
	"teetotum/frame"
	"teetotum/source"
)

// asked is a call, written out only where it is told.
type asked struct {
	name string
	args []any
}

func call(name string, args ...any) asked { return asked{name, args} }

func (a asked) String() string {
	var words []string
	for _, x := range a.args {
		words = append(words, fmt.Sprintf("%+v", x))
	}
	return a.name + " of " + strings.Join(words, ", ")
}

// is fails if got is not want.
func is[T comparable](t *testing.T, what asked, got, want T) {
	t.Helper()
	if got != want {
		t.Fatalf("%s: %+v, want %+v", what, got, want)
	}
}

// took fails if Take answers anything but want and wrong.
func took(t *testing.T, s api.Source, f api.Frame, rail int64, want api.Source, wrong api.Errno) {
	t.Helper()
	got, err := source.Take(s, f, rail)
	is(t, call("Take's error", s, f, rail), err, wrong)
	is(t, call("Take's source", s, f, rail), got, want)
}

// modulo is n modulo 256, also where n has no room in an int.
func modulo(n *big.Int) int {
	return int(new(big.Int).Mod(n, big.NewInt(256)).Int64())
}

func wide(n int) *big.Int { return big.NewInt(int64(n)) }

// comes is P16.2's words.
func comes(last, count int) bool {
	if last < 0 {
		return 0 <= count && count <= 255
	}
	step := modulo(new(big.Int).Sub(wide(count), wide(last)))
	return 1 <= step && step <= 127
}

// small is whether n's size is below rail; the least number's size counts as the greatest number.
func small(n, rail int64) bool {
	size := new(big.Int).Abs(big.NewInt(n))
	if !size.IsInt64() {
		size = big.NewInt(math.MaxInt64)
	}
	return size.Cmp(big.NewInt(rail)) < 0
}

// taking is P16.3's words.
func taking(s api.Source, f api.Frame, rail int64) (api.Source, api.Errno) {
	if s.Silent {
		return s, api.ErrState
	}
	if s.There {
		return s, api.ErrOld
	}
	if !comes(s.Count, f.Count) {
		return s, api.ErrOld
	}
	s.Count = modulo(wide(f.Count))
	if !f.Well {
		return s, api.ErrBad
	}
	if !small(f.Value, rail) {
		return s, api.ErrRange
	}
	s.Value = f.Value
	s.There = true
	return s, api.OK
}

// ended is P16.4's words.
func ended(s api.Source, miss int) api.Source {
	want := api.Source{Count: s.Count, Silent: s.Silent}
	if !s.There {
		want.Missed = s.Missed + 1
	}
	if want.Missed < miss {
		return want
	}
	want.Silent = true
	if want.Missed > miss {
		want.Missed = miss
	}
	if want.Missed < 0 {
		want.Missed = 0
	}
	return want
}

var bools = []bool{false, true}

// edges are counters of all sorts: in a byte and beyond, below 0, and at the ends of int.
var edges = []int{
	math.MinInt, math.MinInt + 1, math.MinInt + 127, math.MinInt + 128, math.MinInt + 255, math.MinInt + 256,
	-1 << 32, -513, -512, -257, -256, -255, -129, -128, -127, -2, -1,
	0, 1, 2, 5, 126, 127, 128, 129, 254, 255, 256, 257, 383, 384, 511, 512, 1 << 32,
	math.MaxInt - 256, math.MaxInt - 255, math.MaxInt - 128, math.MaxInt - 127, math.MaxInt - 1, math.MaxInt,
}

// P16.1: one that sent nothing.
func TestP1New(t *testing.T) {
	is(t, call("New"), source.New(), api.Source{Count: -1})
}

// P16.2: how far a counter may go on, and round.
func TestP2Next(t *testing.T) {
	for _, c := range []struct {
		last, count int
		want        bool
	}{
		{255, 0, true}, {5, 5, false}, // the chapter's own
		{5, 6, true}, {5, 132, true}, {5, 133, false}, {5, 4, false},
		{0, 127, true}, {0, 128, false}, {0, 255, false}, {0, 0, false},
		{200, 71, true}, {200, 72, false}, {128, 255, true}, {128, 0, false}, {129, 0, true},
		{5, 262, true}, {5, 261, false}, {5, -251, false}, {5, -250, true}, {5, -124, true}, {5, -123, false},
		{261, 6, true}, {261, 5, false}, {256, 0, false}, {256, 1, true},
		{-1, 0, true}, {-1, 255, true}, {-1, 256, false}, {-1, -1, false}, {-1, 5, true},
		{-5, 0, true}, {-5, 251, true}, {-200, 255, true}, {-256, 200, true}, {-300, -1, false},
		{math.MinInt, 0, true}, {math.MinInt, 255, true}, {math.MinInt, 256, false}, {math.MinInt, math.MinInt, false},
	} {
		is(t, call("Next", c.last, c.count), source.Next(c.last, c.count), c.want)
	}
}

// P16.2: all counters near a byte's, and at the ends of int, held against the chapter's words.
func TestP2NextOfAll(t *testing.T) {
	for last := -300; last <= 600; last++ {
		for count := -600; count <= 900; count++ {
			if got := source.Next(last, count); got != near(last, count) {
				t.Fatalf("%s: %v", call("Next", last, count), got)
			}
		}
	}
	for _, last := range edges {
		for _, count := range edges {
			is(t, call("Next", last, count), source.Next(last, count), comes(last, count))
		}
	}
}

// near is comes of numbers that are not near the ends of int.
func near(last, count int) bool {
	if last < 0 {
		return 0 <= count && count <= 255
	}
	step := ((count-last)%256 + 256) % 256
	return 1 <= step && step <= 127
}

// P16.3: a reading is taken.
func TestP3Take(t *testing.T) {
	took(t, source.New(), api.Frame{Count: 7, Well: true, Value: -99}, 100,
		api.Source{Count: 7, Value: -99, There: true}, api.OK)
	took(t, api.Source{Count: 255, Missed: 2}, api.Frame{Source: 11, Count: 0, Well: true, Value: 0}, 1,
		api.Source{Count: 0, Value: 0, There: true, Missed: 2}, api.OK)
	took(t, api.Source{Count: 7, Value: 5}, api.Frame{Count: 134, Well: true, Value: 99}, 100,
		api.Source{Count: 134, Value: 99, There: true}, api.OK)
	took(t, api.Source{Count: 7}, api.Frame{Count: 264, Well: true, Value: 1}, 100,
		api.Source{Count: 8, Value: 1, There: true}, api.OK)
	took(t, api.Source{Count: 7}, api.Frame{Count: -240, Well: true, Value: 1}, 100,
		api.Source{Count: 16, Value: 1, There: true}, api.OK)
	took(t, api.Source{Count: 519}, api.Frame{Count: 8, Well: true, Value: 1}, 100,
		api.Source{Count: 8, Value: 1, There: true}, api.OK)
}

// P16.3: what is wrong, the first thing of several; a frame that is not well or at the rail counts, and leaves no reading.
func TestP3TakeWrong(t *testing.T) {
	well := api.Frame{Count: 8, Well: true, Value: 3}
	high := api.Frame{Count: 8, Well: true, Value: 100}
	ill := api.Frame{Count: 8, Value: 100}
	old := api.Frame{Count: 7, Value: 100}
	silent := api.Source{Count: 7, Missed: 3, Silent: true}
	full := api.Source{Count: 7, Value: 9, There: true}
	mute := api.Source{Count: 7, Value: 9, There: true, Silent: true}
	kept := api.Source{Count: 7, Value: 4, Missed: 1}
	for _, f := range []api.Frame{well, high, ill, old} {
		took(t, silent, f, 100, silent, api.ErrState)
		took(t, mute, f, 100, mute, api.ErrState)
		took(t, full, f, 100, full, api.ErrOld)
	}
	took(t, kept, old, 100, kept, api.ErrOld)
	took(t, kept, api.Frame{Count: 135, Well: true, Value: 3}, 100, kept, api.ErrOld)
	took(t, source.New(), api.Frame{Count: 256, Well: true, Value: 3}, 100, source.New(), api.ErrOld)
	took(t, source.New(), api.Frame{Count: -1, Well: true, Value: 3}, 100, source.New(), api.ErrOld)
	counted := api.Source{Count: 8, Value: 4, Missed: 1}
	took(t, kept, ill, 100, counted, api.ErrBad)
	took(t, kept, api.Frame{Count: 264, Value: 3}, 100, counted, api.ErrBad)
	took(t, kept, high, 100, counted, api.ErrRange)
	took(t, kept, api.Frame{Count: -248, Well: true, Value: -100}, 100, counted, api.ErrRange)
}

// P16.3: readings near the rail, and at the ends of the numbers.
func TestP3TakeAtTheRail(t *testing.T) {
	for _, c := range []struct {
		value, rail int64
		want        api.Errno
	}{
		{99, 100, api.OK}, {-99, 100, api.OK}, {100, 100, api.ErrRange}, {-100, 100, api.ErrRange},
		{101, 100, api.ErrRange}, {-101, 100, api.ErrRange}, {0, 1, api.OK}, {0, 0, api.ErrRange}, {0, -1, api.ErrRange},
		{1, 1, api.ErrRange}, {-1, 1, api.ErrRange}, {0, math.MinInt64, api.ErrRange},
		{math.MaxInt64 - 1, math.MaxInt64, api.OK}, {math.MaxInt64, math.MaxInt64, api.ErrRange},
		{math.MinInt64 + 2, math.MaxInt64, api.OK}, {math.MinInt64 + 1, math.MaxInt64, api.ErrRange},
		{math.MinInt64, math.MaxInt64, api.ErrRange}, {math.MinInt64, 100, api.ErrRange}, {math.MinInt64, 0, api.ErrRange},
	} {
		want := api.Source{Count: 1}
		if c.want == api.OK {
			want.Value, want.There = c.value, true
		}
		took(t, source.New(), api.Frame{Count: 1, Well: true, Value: c.value}, c.rail, want, c.want)
	}
}

// P16.3: what is wrong together with all else, held against the chapter's words.
func TestP3TakeOfAll(t *testing.T) {
	values := []int64{0, 1, -1, 99, 100, -100, math.MaxInt64, math.MinInt64}
	rails := []int64{math.MinInt64, -1, 0, 1, 100, 101, math.MaxInt64}
	for _, last := range edges {
		for _, count := range edges {
			for mask := range 8 {
				s := api.Source{Count: last, Value: 77, There: bools[mask&1], Missed: 2, Silent: bools[mask>>1&1]}
				f := api.Frame{Source: 40, Count: count, Well: bools[mask>>2]}
				for _, f.Value = range values {
					for _, rail := range rails {
						want, wrong := taking(s, f, rail)
						took(t, s, f, rail, want, wrong)
					}
				}
			}
		}
	}
}

// P16.4: ticks end.
func TestP4End(t *testing.T) {
	for _, c := range []struct {
		from api.Source
		miss int
		want api.Source
	}{
		{api.Source{Count: 4, Value: 9, There: true, Missed: 2}, 3, api.Source{Count: 4}},
		{api.Source{Count: 4, Value: 9, Missed: 1}, 3, api.Source{Count: 4, Missed: 2}},
		{api.Source{Count: 4, Value: 9, Missed: 2}, 3, api.Source{Count: 4, Missed: 3, Silent: true}},
		{api.Source{Count: 4, Missed: 3, Silent: true}, 3, api.Source{Count: 4, Missed: 3, Silent: true}},
		{api.Source{Count: 4, Missed: 8, Silent: true}, 3, api.Source{Count: 4, Missed: 3, Silent: true}},
		{api.Source{Count: 4, Missed: 8}, 3, api.Source{Count: 4, Missed: 3, Silent: true}},
		{api.Source{Count: 4, Silent: true}, 3, api.Source{Count: 4, Missed: 1, Silent: true}},
		{api.Source{Count: 4, Value: 9, There: true, Missed: 3, Silent: true}, 3, api.Source{Count: 4, Silent: true}},
		{source.New(), 1, api.Source{Count: -1, Missed: 1, Silent: true}},
		{source.New(), 2, api.Source{Count: -1, Missed: 1}},
		{source.New(), 0, api.Source{Count: -1, Silent: true}},
		{source.New(), -4, api.Source{Count: -1, Silent: true}},
		{source.New(), math.MinInt, api.Source{Count: -1, Silent: true}},
		{source.New(), math.MaxInt, api.Source{Count: -1, Missed: 1}},
		{api.Source{Value: 9, There: true}, 1, api.Source{}},
		{api.Source{Value: 9, There: true}, 0, api.Source{Silent: true}},
		{api.Source{Value: 9, There: true, Missed: 5}, -1, api.Source{Silent: true}},
		{api.Source{Missed: math.MaxInt - 1}, math.MaxInt, api.Source{Missed: math.MaxInt, Silent: true}},
		{api.Source{Missed: -3}, 1, api.Source{Missed: -2}},
		{api.Source{Missed: -1}, 1, api.Source{}},
		{api.Source{Missed: -3}, -2, api.Source{Silent: true}},
		{api.Source{Missed: -9}, -2, api.Source{Missed: -8}},
	} {
		is(t, call("End", c.from, c.miss), source.End(c.from, c.miss), c.want)
	}
}

// P16.4: all sources of few ticks missed, held against the chapter's words.
func TestP4EndOfAll(t *testing.T) {
	for missed := -6; missed <= 12; missed++ {
		for miss := -6; miss <= 12; miss++ {
			for mask := range 4 {
				for _, value := range []int64{0, 5, math.MinInt64} {
					s := api.Source{Count: 200, Value: value, There: bools[mask&1], Missed: missed, Silent: bools[mask>>1]}
					is(t, call("End", s, miss), source.End(s, miss), ended(s, miss))
				}
			}
		}
	}
}

// flight is a source's ticks, in each of which a frame comes or none; of each tick's end it is asked how it is.
func flight(t *testing.T, ticks, come int, miss int, asks func(tick int, s api.Source)) {
	t.Helper()
	s := source.New()
	for tick := range ticks {
		if come>>tick&1 == 1 {
			f := api.Frame{Count: 9 * tick & 255, Well: true, Value: 1}
			wrong := api.OK
			if s.Silent {
				wrong = api.ErrState
			}
			after, err := source.Take(s, f, 2)
			is(t, call("Take's error", s, f), err, wrong)
			s = after
		}
		s = source.End(s, miss)
		asks(tick, s)
	}
}

// P16.5: just those are silent that were without a reading for miss ticks one behind the other, and those from then on.
func TestP5Silent(t *testing.T) {
	const ticks = 11
	for come := range 1 << ticks {
		for miss := 1; miss <= 5; miss++ {
			silent, without := false, 0
			flight(t, ticks, come, miss, func(tick int, s api.Source) {
				without++
				if come>>tick&1 == 1 {
					without = 0
				}
				silent = silent || without >= miss
				if s.Silent != silent || s.There || s.Value != 0 || s.Missed > miss {
					t.Fatalf("frames at %011b, behind tick %d, with %d missed at most: %+v", come, tick, miss, s)
				}
			})
		}
	}
}

// P16.5: whatever comes, one that is silent stays so, also where more may be missed than before.
func TestP5StaysSilent(t *testing.T) {
	s := source.End(source.New(), 1)
	for n := range 300 {
		f := api.Frame{Count: n & 255, Well: true, Value: 1}
		took(t, s, f, 2, s, api.ErrState)
		s = source.End(s, n)
		if !s.Silent {
			t.Fatalf("not silent any more behind %d ticks: %+v", n, s)
		}
	}
}

// P16.6: a frame that was taken, or was not well, or at the rail, is not taken again, in this tick and in those that come.
func TestP6NotTwice(t *testing.T) {
	for count := range 256 {
		for _, f := range []api.Frame{{Count: count, Well: true, Value: 1}, {Count: count, Value: 1}, {Count: count, Well: true, Value: 2}} {
			s, _ := source.Take(source.New(), f, 2)
			took(t, s, f, 2, s, api.ErrOld)
			s = source.End(s, 9)
			took(t, s, f, 2, s, api.ErrOld)
			for step := 1; step <= 127; step++ {
				on, err := source.Take(s, api.Frame{Count: (count + step) % 256, Well: true, Value: 0}, 2)
				is(t, call("Take's error", s, step), err, api.OK)
				on = source.End(on, 9)
				took(t, on, f, 2, on, api.ErrOld)
			}
		}
	}
}

// P16.3: behind a frame that is not well another one of the same tick is taken.
func TestP3BehindABadOne(t *testing.T) {
	s := source.New()
	s, err := source.Take(s, api.Frame{Count: 3, Value: 1}, 10)
	is(t, call("Take's error", "an ill frame"), err, api.ErrBad)
	s, err = source.Take(s, api.Frame{Count: 4, Well: true, Value: 10}, 10)
	is(t, call("Take's error", "a reading at the rail"), err, api.ErrRange)
	took(t, s, api.Frame{Count: 5, Well: true, Value: 6}, 10, api.Source{Count: 5, Value: 6, There: true}, api.OK)
}

// P16.3: frames as they are read from bytes, with the usual rail.
func TestP3FramesRead(t *testing.T) {
	rail := config.Usual().Rail
	s := source.New()
	for n := range 600 {
		b, err := frame.Bytes(api.Frame{Source: 2, Count: n % 256, Well: true, Value: rail - 1})
		is(t, call("Bytes", n), err, api.OK)
		f, err := frame.Read(b)
		is(t, call("Read", b), err, api.OK)
		took(t, s, f, rail, api.Source{Count: n % 256, Value: rail - 1, There: true}, api.OK)
		s, _ = source.Take(s, f, rail)
		s = source.End(s, 3)
		is(t, call("End", n), s, api.Source{Count: n % 256})
	}
}
