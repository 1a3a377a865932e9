package ladder_test

import (
	"fmt"
	"math"
	"slices"
	"strings"
	"testing"

	"teetotum/api"
	"teetotum/ladder"
)

// asked is a call, written out only where it is told.
type asked struct {
	name string
	args []any
}

func call(name string, args ...any) asked { return asked{name, args} }

func (a asked) String() string {
	var words []string
	for _, x := range a.args {
		words = append(words, fmt.Sprintf("%+v", x))
	}
	return a.name + " of " + strings.Join(words, ", ")
}

// is fails if got is not want.
func is[T comparable](t *testing.T, what asked, got, want T) {
	t.Helper()
	if got != want {
		t.Fatalf("%s: %+v, want %+v", what, got, want)
	}
}

// The modes as the chapter has them, the best one first.
const (
	full = iota
	failOp
	failSafe
	ambiguous
	rateOnly
	lost
)

// usables, statuses and modes are such as there are, those beside them, and the ends of the numbers.
var (
	usables  = []int{math.MinInt, -6, -1, 0, 1, 2, 3, 4, 5, 6, 7, 8, math.MaxInt}
	statuses = []int{math.MinInt, -2, -1, 0, 1, 2, 3, 4, math.MaxInt}
	modes    = []int{math.MinInt, math.MinInt + 1, -6, -2, -1, 0, 1, 2, 3, 4, 5, 6, 7, 11, 1 << 32, math.MaxInt - 1, math.MaxInt}
)

// latch has the flags of a text: a that there was an ambiguity, f that the memory was lost, n that all was refuted.
func latch(usable, alt, speed int, flags string) api.Latch {
	return api.Latch{
		Usable: usable, Alt: alt, Speed: speed,
		Ambig: strings.Contains(flags, "a"), Forgot: strings.Contains(flags, "f"), Nothing: strings.Contains(flags, "n"),
	}
}

var allFlags = []string{"", "a", "f", "n", "af", "an", "fn", "afn"}

// latches are all of these numbers, with all flags.
func latches(usables, statuses []int) []api.Latch {
	var l []api.Latch
	for _, usable := range usables {
		for _, alt := range statuses {
			for _, speed := range statuses {
				for _, flags := range allFlags {
					l = append(l, latch(usable, alt, speed, flags))
				}
			}
		}
	}
	return l
}

// P32.1, and the chapter's example.
func TestP1Gyros(t *testing.T) {
	for usable, want := range map[int]int{
		math.MaxInt: full, 1 << 32: full, 8: full, 7: full, 6: full,
		5: failOp, 4: failSafe, 3: rateOnly,
		2: lost, 1: lost, 0: lost, -1: lost, -3: lost, -5: lost, -6: lost, -1 << 32: lost, math.MinInt: lost,
	} {
		is(t, call("Gyros", usable), ladder.Gyros(usable), want)
	}
}

// P32.2 by hand, of the statuses that there are, and those beside them.
func TestP2AirByHand(t *testing.T) {
	for _, c := range []struct{ alt, speed, want int }{
		{0, 0, full}, {-1, 0, full}, {0, -1, full}, {-1, -7, full}, {math.MinInt, math.MinInt, full}, {math.MinInt, 0, full},
		{1, 0, failOp}, {0, 1, failOp}, {1, 1, failOp}, {-1, 1, failOp}, {1, -1, failOp}, {math.MinInt, 1, failOp}, {1, math.MinInt, failOp},
		{2, 0, failSafe}, {0, 2, failSafe}, {2, 1, failSafe}, {1, 2, failSafe}, {2, -1, failSafe}, {-1, 2, failSafe},
		{3, 0, failSafe}, {0, 3, failSafe}, {3, 1, failSafe}, {1, 3, failSafe},
		{math.MaxInt, 1, failSafe}, {1, math.MaxInt, failSafe}, {math.MaxInt, math.MinInt, failSafe}, {math.MinInt, math.MaxInt, failSafe},
		{2, 2, rateOnly}, {3, 2, rateOnly}, {2, 3, rateOnly}, {3, 3, rateOnly}, {7, 4, rateOnly}, {math.MaxInt, 2, rateOnly}, {2, math.MaxInt, rateOnly}, {math.MaxInt, math.MaxInt, rateOnly},
	} {
		is(t, call("Air", c.alt, c.speed), ladder.Air(c.alt, c.speed), c.want)
	}
}

// airByWords is the mode of both statuses, by how many of them are such and such.
func airByWords(alt, speed int) int {
	bad, gone := 0, 0
	for _, status := range []int{alt, speed} {
		if status > api.AirGood {
			bad++
		}
		if status >= api.AirLost {
			gone++
		}
	}
	switch {
	case bad == 0:
		return full
	case gone == 0:
		return failOp
	case gone == 1:
		return failSafe
	}
	return rateOnly
}

// P32.2 of all statuses, whichever is whose.
func TestP2Air(t *testing.T) {
	for _, alt := range statuses {
		for _, speed := range statuses {
			is(t, call("Air", alt, speed), ladder.Air(alt, speed), airByWords(alt, speed))
			is(t, call("Air", speed, alt), ladder.Air(speed, alt), ladder.Air(alt, speed))
		}
	}
}

// byHand are latches with their mode, and its cause.
var byHand = []struct {
	l     api.Latch
	mode  int
	cause string
}{
	{latch(6, 0, 0, ""), full, ""},
	{latch(9, -1, -1, ""), full, ""},
	{latch(5, 0, 0, ""), failOp, "gyros"}, // the chapter's example
	{latch(5, 1, 0, ""), failOp, "gyros"},
	{latch(6, 1, 0, ""), failOp, "air"},
	{latch(6, 0, 1, ""), failOp, "air"},
	{latch(6, 1, 1, ""), failOp, "air"},
	{latch(4, 0, 0, ""), failSafe, "gyros"},
	{latch(4, 2, 0, "f"), failSafe, "gyros"},
	{latch(4, 1, 1, "f"), failSafe, "gyros"},
	{latch(5, 2, 1, ""), failSafe, "air"},
	{latch(5, 0, 2, "f"), failSafe, "air"},
	{latch(6, 2, 0, ""), failSafe, "air"},
	{latch(6, 0, 0, "f"), failSafe, "memory"},
	{latch(5, 0, 0, "f"), failSafe, "memory"},
	{latch(5, 1, 1, "f"), failSafe, "memory"},
	{latch(6, 0, 0, "a"), ambiguous, "ambiguity"},
	{latch(6, 0, 0, "af"), ambiguous, "ambiguity"},
	{latch(4, 2, 1, "af"), ambiguous, "ambiguity"},
	{latch(3, 0, 0, ""), rateOnly, "gyros"},
	{latch(3, 2, 2, "af"), rateOnly, "gyros"},
	{latch(4, 2, 2, "a"), rateOnly, "air"},
	{latch(6, 2, 2, "af"), rateOnly, "air"},
	{latch(6, 2, 2, "f"), rateOnly, "air"},
	{latch(2, 0, 0, ""), lost, "gyros"},
	{latch(0, 2, 2, "af"), lost, "gyros"},
	{latch(-1, 0, 0, "a"), lost, "gyros"},
	{latch(6, 0, 0, "n"), lost, "hypotheses"},
	{latch(2, 0, 0, "n"), lost, "hypotheses"},
	{latch(3, 2, 2, "afn"), lost, "hypotheses"},
	{latch(0, 2, 2, "afn"), lost, "hypotheses"},
	{api.Latch{}, lost, "gyros"},
}

// P32.3 and P32.8 by hand.
func TestP3And8ByHand(t *testing.T) {
	for _, c := range byHand {
		is(t, call("Mode", c.l), ladder.Mode(c.l), c.mode)
		is(t, call("Cause", c.l), ladder.Cause(c.l), c.cause)
	}
}

// reason is a mode, and what asks for one no better.
type reason struct {
	cause string
	mode  int
}

// reasons are all that a latch tells, in the order in which they count as causes.
func reasons(l api.Latch) []reason {
	flag := func(set bool, mode int) int {
		if set {
			return mode
		}
		return full
	}
	return []reason{
		{"hypotheses", flag(l.Nothing, lost)},
		{"gyros", ladder.Gyros(l.Usable)},
		{"air", ladder.Air(l.Alt, l.Speed)},
		{"ambiguity", flag(l.Ambig, ambiguous)},
		{"memory", flag(l.Forgot, failSafe)},
	}
}

// P32.3 and P32.8 of latches of all kinds: the mode is the worst of all reasons, and the first one of that mode is the cause.
func TestP3And8(t *testing.T) {
	seen := map[reason]int{}
	for _, l := range latches(usables, statuses) {
		worst := reason{"", full}
		for _, r := range reasons(l) {
			if r.mode > worst.mode {
				worst = r
			}
		}
		is(t, call("Mode", l), ladder.Mode(l), worst.mode)
		is(t, call("Cause", l), ladder.Cause(l), worst.cause)
		seen[worst]++
	}
	for _, r := range []reason{
		{"", full}, {"gyros", failOp}, {"air", failOp}, {"gyros", failSafe}, {"air", failSafe}, {"memory", failSafe},
		{"ambiguity", ambiguous}, {"gyros", rateOnly}, {"air", rateOnly}, {"gyros", lost}, {"hypotheses", lost},
	} {
		if seen[r] == 0 {
			t.Errorf("no latch had %+v", r)
		}
		delete(seen, r)
	}
	if len(seen) > 0 {
		t.Errorf("there were others: %v", seen)
	}
}

// P32.4: the names, and none of other numbers.
func TestP4Name(t *testing.T) {
	names := []string{"FULL", "FAIL-OP", "FAIL-SAFE", "AMBIGUOUS", "RATE-ONLY", "NAV-LOST"}
	for i, mode := range []int{api.ModeFull, api.ModeFailOp, api.ModeFailSafe, api.ModeAmbiguous, api.ModeRateOnly, api.ModeLost} {
		is(t, call("Name", mode), ladder.Name(mode), names[i])
	}
	others := slices.Clone(modes)
	for n := range 1000 {
		others = append(others, n, -n)
	}
	for _, mode := range others {
		if mode < full || mode > lost {
			is(t, call("Name", mode), ladder.Name(mode), "")
		}
	}
}

// P32.5 by hand: each field for itself, at its edge and beyond.
func TestP5WorseByHand(t *testing.T) {
	b := latch(4, 1, 1, "")
	for _, c := range []struct {
		a, b api.Latch
		want bool
	}{
		{b, b, true},
		{api.Latch{}, api.Latch{}, true},
		{latch(3, 1, 1, ""), b, true},
		{latch(5, 1, 1, ""), b, false},
		{latch(4, 2, 1, ""), b, true},
		{latch(4, 0, 1, ""), b, false},
		{latch(4, 1, 2, ""), b, true},
		{latch(4, 1, 0, ""), b, false},
		{latch(4, 1, 1, "a"), b, true},
		{latch(4, 1, 1, "f"), b, true},
		{latch(4, 1, 1, "n"), b, true},
		{latch(4, 1, 1, "afn"), b, true},
		{b, latch(4, 1, 1, "a"), false},
		{b, latch(4, 1, 1, "f"), false},
		{b, latch(4, 1, 1, "n"), false},
		{latch(4, 1, 1, "fn"), latch(4, 1, 1, "a"), false},
		{latch(4, 1, 1, "an"), latch(4, 1, 1, "f"), false},
		{latch(4, 1, 1, "af"), latch(4, 1, 1, "n"), false},
		{latch(4, 1, 1, "afn"), latch(4, 1, 1, "afn"), true},
		{latch(0, 2, 2, "afn"), latch(6, 0, 0, ""), true},
		{latch(6, 0, 0, ""), latch(0, 2, 2, "afn"), false},
		{latch(0, 0, 2, "afn"), latch(6, 1, 0, ""), false}, // worse all round, but of the altitude
		{latch(6, 0, 0, "n"), latch(5, 0, 0, ""), false},   // a worse mode, but more gyros
		{latch(9, 0, 0, ""), latch(8, 0, 0, ""), false},    // also of more than there are
		{latch(-2, 5, 4, ""), latch(-1, 5, 4, ""), true},   // and of fewer than none
		{latch(6, -1, 0, ""), latch(6, 0, 0, ""), false},   // and of statuses better than good
		{latch(6, 2, 0, ""), latch(6, 3, 0, ""), false},    // or than lost
		{latch(math.MinInt, 0, 0, ""), latch(math.MaxInt, 0, 0, ""), true},
		{latch(math.MaxInt, 0, 0, ""), latch(math.MinInt, 0, 0, ""), false},
		{latch(0, math.MaxInt, 0, ""), latch(0, math.MinInt, 0, ""), true},
		{latch(0, math.MinInt, 0, ""), latch(0, math.MaxInt, 0, ""), false},
		{latch(0, 0, math.MaxInt, ""), latch(0, 0, math.MinInt, ""), true},
		{latch(0, 0, math.MinInt, ""), latch(0, 0, math.MaxInt, ""), false},
	} {
		is(t, call("Worse", c.a, c.b), ladder.Worse(c.a, c.b), c.want)
	}
}

// badness are the six fields of a latch as numbers, of which a greater one is a worse one.
func badness(l api.Latch) [6]int {
	bad := [6]int{^l.Usable, l.Alt, l.Speed}
	for i, set := range []bool{l.Ambig, l.Forgot, l.Nothing} {
		if set {
			bad[3+i] = 1
		}
	}
	return bad
}

// nowhereLess is whether no number of a is less than that of b.
func nowhereLess(a, b [6]int) bool {
	for i := range a {
		if a[i] < b[i] {
			return false
		}
	}
	return true
}

// P32.5 and P32.9 of any two latches: what is nowhere better has no better mode.
func TestP5And9(t *testing.T) {
	all := append(latches([]int{0, 1, 2, 3, 4, 5, 6}, []int{0, 1, 2}), latches([]int{math.MinInt, -1, 7, math.MaxInt}, []int{math.MinInt, -1, 1, 3, math.MaxInt})...)
	var bad [][6]int
	var mode []int
	for _, l := range all {
		bad, mode = append(bad, badness(l)), append(mode, ladder.Mode(l))
	}
	worse := 0
	for i, a := range all {
		for j, b := range all {
			if got, want := ladder.Worse(a, b), nowhereLess(bad[i], bad[j]); got != want {
				t.Fatalf("Worse of %+v, %+v: %v, want %v", a, b, got, want)
			} else if got && mode[i] < mode[j] {
				t.Fatalf("%+v is nowhere better than %+v, but its mode is %d, which is better than %d", a, b, mode[i], mode[j])
			} else if got {
				worse++
			}
		}
	}
	if worse < 10000 || worse > len(all)*len(all)/2 {
		t.Fatalf("%d of %d were nowhere better", worse, len(all)*len(all))
	}
}

// P32.6: all 63, in order.
func TestP6All(t *testing.T) {
	var want []api.Latch
	for _, usable := range []int{6, 5, 4, 3, 2, 1, 0} {
		for _, both := range [][2]int{{0, 0}, {0, 1}, {0, 2}, {1, 0}, {1, 1}, {1, 2}, {2, 0}, {2, 1}, {2, 2}} {
			want = append(want, api.Latch{Usable: usable, Alt: both[0], Speed: both[1]})
		}
	}
	got := ladder.All()
	if !slices.Equal(got, want) {
		t.Fatalf("All: %+v, want %+v", got, want)
	}
	for place, l := range map[int]api.Latch{
		0: latch(6, api.AirGood, api.AirGood, ""), 1: latch(6, api.AirGood, api.AirOne, ""), 3: latch(6, api.AirOne, api.AirGood, ""),
		8: latch(6, api.AirLost, api.AirLost, ""), 9: latch(5, api.AirGood, api.AirGood, ""), 62: latch(0, api.AirLost, api.AirLost, ""),
	} {
		is(t, call("All", place), got[place], l)
	}
}

// P32.6, P32.7: what is answered shares nothing with what is answered the next time.
func TestP6AllIsNew(t *testing.T) {
	want := slices.Clone(ladder.All())
	changed := ladder.All()
	for i := range changed {
		changed[i] = latch(-1, 9, 9, "afn")
	}
	_ = append(changed[:1], latch(6, 0, 0, "n"))
	if got := ladder.All(); !slices.Equal(got, want) {
		t.Fatalf("All: %+v, want %+v", got, want)
	}
	best, has := ladder.Best(full)
	is(t, call("Best", full), best, latch(6, 0, 0, ""))
	is(t, call("Best", full), has, true)
}

// P32.7: the first one of each mode by hand; none is ambiguous, and none has a mode that there is not.
func TestP7BestByHand(t *testing.T) {
	wants := map[int]api.Latch{
		full:     latch(6, 0, 0, ""),
		failOp:   latch(6, 0, 1, ""),
		failSafe: latch(6, 0, 2, ""),
		rateOnly: latch(6, 2, 2, ""),
		lost:     latch(2, 0, 0, ""),
	}
	for _, mode := range modes {
		best, has := ladder.Best(mode)
		want, wanted := wants[mode]
		is(t, call("Best", mode), best, want)
		is(t, call("Best", mode), has, wanted)
	}
}

// P32.7: what is the best has the mode, and nothing ahead of it among All has.
func TestP7Best(t *testing.T) {
	for mode := -20; mode < 20; mode++ {
		place := slices.IndexFunc(ladder.All(), func(l api.Latch) bool { return ladder.Mode(l) == mode })
		best, has := ladder.Best(mode)
		is(t, call("Best", mode), has, place >= 0)
		if has {
			is(t, call("Best", mode), best, ladder.All()[place])
		} else {
			is(t, call("Best", mode), best, api.Latch{})
		}
	}
}

// P32.10: what is not FULL has a cause, and nothing else has.
func TestP10Cause(t *testing.T) {
	for _, l := range latches(usables, statuses) {
		is(t, call("Cause", l), ladder.Cause(l) != "", ladder.Mode(l) != full)
	}
}
