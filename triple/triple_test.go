package triple_test

import (
	"fmt"
	"math"
	"math/big"
	"math/rand"
	"strings"
	"testing"

	"teetotum/api"
	"teetotum/config"
	"teetotum/observer"
	"teetotum/triple"
)

const (
	greatest int64 = math.MaxInt64
	least    int64 = math.MinInt64
)

// hypotheses are four of them.
type hypotheses = [4]api.Observer

// none is the empty span, as it is answered.
var none = api.Span{Lo: 1, Hi: 0}

// out is what is left of a hypothesis that is refuted.
var out = api.Observer{Refuted: true}

// asked is a call, written out only where it is told.
type asked struct {
	name string
	args []any
}

func call(name string, args ...any) asked { return asked{name, args} }

func (a asked) String() string {
	var words []string
	for _, x := range a.args {
		words = append(words, fmt.Sprintf("%+v", x))
	}
	return a.name + " of " + strings.Join(words, ", ")
}

// is fails if got is not want.
func is[T comparable](t *testing.T, what asked, got, want T) {
	t.Helper()
	if got != want {
		t.Fatalf("%s: %+v, want %+v", what, got, want)
	}
}

func of(lo, hi int64) api.Span { return api.Span{Lo: lo, Hi: hi} }

// knows is a hypothesis that is alive.
func knows(value, bias api.Span) api.Observer { return api.Observer{Value: value, Bias: bias} }

// value is a hypothesis that is alive, without a bias.
func value(lo, hi int64) api.Observer { return knows(of(lo, hi), of(0, 0)) }

// mask are three bools, by bits.
func mask(bits int) [3]bool {
	return [3]bool{bits&1 == 1, bits&2 == 2, bits&4 == 4}
}

// edges are numbers that may be, ones that are too great or below 0, and those near the ends of the room.
var edges = []int64{0, 1, 2, 5, 20, 200, 1000, 60000, 1 << 20, api.MaxAir, 1 << 32, 1 << 62, greatest - 1, greatest, -1, -2, -7, -300, -api.MaxAir, -1 << 62, 1 - greatest, -greatest, least}

// anyNumber is near 0 more often than not.
func anyNumber(r *rand.Rand) int64 {
	switch r.Intn(4) {
	case 0:
		return edges[r.Intn(len(edges))]
	case 1:
		return r.Int63n(400) - 200
	}
	return r.Int63n(41) - 20
}

func anySpan(r *rand.Rand) api.Span {
	a, b := anyNumber(r), anyNumber(r)
	if a > b && r.Intn(8) > 0 {
		a, b = b, a
	}
	return of(a, b)
}

func anyAir(r *rand.Rand) api.Air {
	a := api.Air{Biased: mask(r.Intn(8)), Bias: anyNumber(r), Change: anyNumber(r), Move: anyNumber(r), Most: anyNumber(r)}
	for i := range a.Eps {
		a.Eps[i] = anyNumber(r)
	}
	return a
}

// anyHypotheses are refuted, each for itself, once in three times.
func anyHypotheses(r *rand.Rand) hypotheses {
	var l hypotheses
	for i := range l {
		l[i] = api.Observer{Value: anySpan(r), Bias: anySpan(r), Refuted: r.Intn(3) == 0}
	}
	return l
}

// airs are the usual ones, small ones of all kinds of biased, and n others, whose numbers are of all kinds.
func airs(r *rand.Rand, n int) []api.Air {
	c := config.Usual()
	l := []api.Air{c.Alt, c.Speed, {}}
	for bits := range 8 {
		l = append(l,
			api.Air{Eps: [3]int64{2, 1, 0}, Biased: mask(bits), Bias: 3, Change: 1, Move: 2, Most: 9},
			api.Air{Eps: [3]int64{1, 3, 2}, Biased: mask(bits), Bias: 8, Change: 0, Move: 0, Most: 20})
	}
	for range n {
		l = append(l, anyAir(r))
	}
	return l
}

// told is all that is told of four hypotheses.
type told struct {
	alive, bad, status int
	hull               api.Span
	blame              [3]int
	spread             int64
}

func tell(l hypotheses) told {
	return told{triple.Alive(l), triple.Bad(l), triple.Status(l), triple.Hull(l), triple.Blame(l), triple.Spread(l)}
}

// P30.1: each hypothesis knows how great the value and the bias may be.
func TestP1Start(t *testing.T) {
	for _, c := range []struct {
		a    api.Air
		want api.Observer
	}{
		{config.Usual().Alt, knows(of(-60000, 60000), of(-200, 200))},
		{config.Usual().Speed, knows(of(-1000, 1000), of(-80, 80))},
		{api.Air{Most: 7, Eps: [3]int64{1, 2, 3}, Move: 4, Change: 5}, knows(of(-7, 7), of(0, 0))},
		{api.Air{}, api.Observer{}},
	} {
		is(t, call("Start", c.a), triple.Start(c.a), hypotheses{c.want, c.want, c.want, c.want})
	}
	r := rand.New(rand.NewSource(1))
	for _, a := range airs(r, 2000) {
		o := observer.Start(a)
		is(t, call("Start", a), triple.Start(a), hypotheses{o, o, o, o})
	}
}

// plain is an air of three sources that are not biased, and mixed one whose first two are.
var (
	plain = api.Air{Eps: [3]int64{2, 3, 4}, Move: 5, Most: 100}
	mixed = api.Air{Eps: [3]int64{2, 3, 4}, Biased: [3]bool{true, true, false}, Bias: 10, Change: 2, Move: 5, Most: 100}
)

// step is a Step by hand, and what is told of it.
type step struct {
	l     hypotheses
	x     [3]int64
	there string // one byte a source, + if it reads
	want  hypotheses
	told  told
}

func (s step) reads() [3]bool {
	return [3]bool{s.there[0] == '+', s.there[1] == '+', s.there[2] == '+'}
}

func steps(t *testing.T, a api.Air, l []step) {
	t.Helper()
	for _, s := range l {
		got := triple.Step(a, s.l, s.x, s.reads())
		is(t, call("Step", a, s.l, s.x, s.there), got, s.want)
		is(t, call("all", got), tell(got), s.told)
	}
}

// P30.2, and what is told, of sources that are not biased.
func TestP2StepPlainByHand(t *testing.T) {
	start := hypotheses{value(-100, 100), value(-100, 100), value(-100, 100), value(-100, 100)}
	either := hypotheses{out, value(57, 63), value(48, 52), out}
	lost := hypotheses{out, out, out, out}
	steps(t, plain, []step{
		{start, [3]int64{}, "...", start, told{4, -1, api.AirGood, of(-100, 100), [3]int{1, 1, 1}, 0}},
		{start, [3]int64{50, 54, 56}, "+++", hypotheses{value(52, 52), value(52, 57), value(52, 52), value(51, 52)},
			told{4, -1, api.AirGood, of(51, 57), [3]int{1, 1, 1}, 0}},
		{start, [3]int64{50, 52, 60}, "+++", hypotheses{out, out, out, value(49, 52)},
			told{1, 2, api.AirOne, of(49, 52), [3]int{0, 0, 1}, 0}},
		{start, [3]int64{50, 60, 52}, "+++", hypotheses{out, out, value(48, 52), out},
			told{1, 1, api.AirOne, of(48, 52), [3]int{0, 1, 0}, 0}},
		{start, [3]int64{60, 50, 52}, "+++", hypotheses{out, value(48, 53), out, out},
			told{1, 0, api.AirOne, of(48, 53), [3]int{1, 0, 0}, 0}},
		{start, [3]int64{50, 54, 57}, "+++", hypotheses{out, value(53, 57), out, value(51, 52)},
			told{2, -1, api.AirOne, of(51, 57), [3]int{1, 0, 1}, 1}},
		{start, [3]int64{0, 30, 60}, "+++", lost, told{0, -1, api.AirLost, none, [3]int{}, 0}},
		{start, [3]int64{50, 0, 0}, "+..", hypotheses{value(48, 52), value(-100, 100), value(48, 52), value(48, 52)},
			told{4, -1, api.AirGood, of(-100, 100), [3]int{1, 1, 1}, 0}},
		{start, [3]int64{103, 0, 0}, "+..", hypotheses{out, value(-100, 100), out, out},
			told{1, 0, api.AirOne, of(-100, 100), [3]int{1, 0, 0}, 0}},
		{start, [3]int64{0, 0, -105}, "..+", hypotheses{out, out, out, value(-100, 100)},
			told{1, 2, api.AirOne, of(-100, 100), [3]int{0, 0, 1}, 0}},
		{start, [3]int64{103, 0, -105}, "+.+", lost, told{0, -1, api.AirLost, none, [3]int{}, 0}},
		{start, [3]int64{50, 60, 0}, "++.", either, told{2, -1, api.AirOne, of(48, 63), [3]int{1, 1, 0}, 5}},
		{either, [3]int64{}, "...", hypotheses{out, value(52, 68), value(43, 57), out},
			told{2, -1, api.AirOne, of(43, 68), [3]int{1, 1, 0}, 0}},
		{either, [3]int64{0, 0, 61}, "..+", hypotheses{out, value(57, 65), value(57, 57), out},
			told{2, -1, api.AirOne, of(57, 65), [3]int{1, 1, 0}, 0}},
		{either, [3]int64{0, 0, 62}, "..+", hypotheses{out, value(58, 66), out, out},
			told{1, 0, api.AirOne, of(58, 66), [3]int{1, 0, 0}, 0}},
		{either, [3]int64{0, 0, 47}, "..+", hypotheses{out, out, value(43, 51), out},
			told{1, 1, api.AirOne, of(43, 51), [3]int{0, 1, 0}, 0}},
		{either, [3]int64{0, 0, 80}, "..+", lost, told{0, -1, api.AirLost, none, [3]int{}, 0}},
		{lost, [3]int64{50, 50, 50}, "+++", lost, told{0, -1, api.AirLost, none, [3]int{}, 0}},
	})
}

// P30.2, and what is told, of two baros that share a bias, and GPS; the last one is the tenth example of the whole.
func TestP2StepMixedByHand(t *testing.T) {
	o := knows(of(-100, 100), of(-10, 10))
	start := hypotheses{o, o, o, o}
	steps(t, mixed, []step{
		{start, [3]int64{50, 52, 40}, "+++", hypotheses{
			knows(of(39, 44), of(5, 10)), knows(of(39, 44), of(5, 10)), knows(of(38, 44), of(4, 10)), knows(of(39, 62), of(-10, 10))},
			told{4, -1, api.AirGood, of(38, 62), [3]int{1, 1, 1}, 0}},
		{start, [3]int64{50, 58, 40}, "+++", hypotheses{
			out, out, knows(of(38, 44), of(4, 10)), knows(of(45, 62), of(-7, 10))},
			told{2, -1, api.AirOne, of(38, 62), [3]int{0, 1, 1}, 1}},
		{start, [3]int64{50, 52, 80}, "+++", hypotheses{out, out, out, knows(of(39, 62), of(-10, 10))},
			told{1, 2, api.AirOne, of(39, 62), [3]int{0, 0, 1}, 0}},
	})
}

// P30.2: each hypothesis goes on for itself, as observer.Step, of its own bad source.
func TestP2Step(t *testing.T) {
	r := rand.New(rand.NewSource(2))
	alive := 0
	for _, a := range airs(r, 3000) {
		for range 30 {
			l, there := anyHypotheses(r), mask(r.Intn(8)|r.Intn(8))
			x := [3]int64{anyNumber(r), anyNumber(r), anyNumber(r)}
			want := hypotheses{
				observer.Step(a, l[0], -1, x, there),
				observer.Step(a, l[1], 0, x, there),
				observer.Step(a, l[2], 1, x, there),
				observer.Step(a, l[3], 2, x, there),
			}
			is(t, call("Step", a, l, x, there), triple.Step(a, l, x, there), want)
			alive += triple.Alive(want)
		}
	}
	if alive < 10000 {
		t.Fatalf("%d were alive", alive)
	}
}

// P30.2: what a source reads says nothing to the hypothesis that it is bad.
func TestP2StepOwnSource(t *testing.T) {
	r := rand.New(rand.NewSource(3))
	for _, a := range airs(r, 500) {
		for source := range 3 {
			l, there := triple.Start(a), mask(r.Intn(8))
			x := [3]int64{r.Int63n(21) - 10, r.Int63n(21) - 10, r.Int63n(21) - 10}
			want := triple.Step(a, l, x, there)[source+1]
			x[source], there[source] = anyNumber(r), !there[source]
			is(t, call("Step", a, l, x, there), triple.Step(a, l, x, there)[source+1], want)
		}
	}
}

// P30.3 to P30.5 and P30.7, of all sets of hypotheses that are refuted, bit by bit: whatever the others know.
func TestP3To7BySets(t *testing.T) {
	wants := [16]struct {
		alive, bad, status int
		blame              [3]int
	}{
		{4, -1, api.AirGood, [3]int{1, 1, 1}},
		{3, -1, api.AirOne, [3]int{1, 1, 1}},
		{3, -1, api.AirGood, [3]int{0, 1, 1}},
		{2, -1, api.AirOne, [3]int{0, 1, 1}},
		{3, -1, api.AirGood, [3]int{1, 0, 1}},
		{2, -1, api.AirOne, [3]int{1, 0, 1}},
		{2, -1, api.AirGood, [3]int{0, 0, 1}},
		{1, 2, api.AirOne, [3]int{0, 0, 1}},
		{3, -1, api.AirGood, [3]int{1, 1, 0}},
		{2, -1, api.AirOne, [3]int{1, 1, 0}},
		{2, -1, api.AirGood, [3]int{0, 1, 0}},
		{1, 1, api.AirOne, [3]int{0, 1, 0}},
		{2, -1, api.AirGood, [3]int{1, 0, 0}},
		{1, 0, api.AirOne, [3]int{1, 0, 0}},
		{1, -1, api.AirGood, [3]int{0, 0, 0}},
		{0, -1, api.AirLost, [3]int{0, 0, 0}},
	}
	r := rand.New(rand.NewSource(4))
	for range 200 {
		for set, want := range wants {
			l := anyHypotheses(r)
			for i := range l {
				l[i].Refuted = set>>i&1 == 1
			}
			is(t, call("Alive", l), triple.Alive(l), want.alive)
			is(t, call("Bad", l), triple.Bad(l), want.bad)
			is(t, call("Status", l), triple.Status(l), want.status)
			is(t, call("Blame", l), triple.Blame(l), want.blame)
		}
	}
}

// P30.6, P30.8 by hand, of those that are alive alone.
func TestP6And8ByHand(t *testing.T) {
	far := api.Observer{Value: of(900, 950), Refuted: true}
	for _, c := range []struct {
		l      hypotheses
		hull   api.Span
		spread int64
	}{
		{hypotheses{out, out, out, out}, none, 0},
		{hypotheses{far, far, far, far}, none, 0},
		{hypotheses{}, of(0, 0), 0},
		{hypotheses{far, value(3, 7), far, far}, of(3, 7), 0},
		{hypotheses{value(3, 7), far, far, value(8, 9)}, of(3, 9), 1},
		{hypotheses{value(3, 7), far, value(7, 9), far}, of(3, 9), 0},
		{hypotheses{value(3, 7), value(10, 12), value(-5, 0), far}, of(-5, 12), 10},
		{hypotheses{value(3, 7), value(10, 12), far, value(20, 30)}, of(3, 30), 13},
		{hypotheses{far, value(20, 30), value(10, 12), value(3, 7)}, of(3, 30), 13},
		{hypotheses{value(-9, -8), value(8, 9), value(0, 0), value(-20, 20)}, of(-20, 20), 16},
		{hypotheses{value(5, 5), value(5, 5), value(5, 5), value(4, 4)}, of(4, 5), 1},
		{hypotheses{far, far, value(1, 0), far}, none, 0},
		{hypotheses{far, value(7, 3), far, far}, of(7, 3), 0},
		{hypotheses{value(7, 3), value(20, 22), far, far}, of(20, 22), 0},
		{hypotheses{value(20, 22), value(7, 3), far, value(24, 24)}, of(20, 24), 2},
		{hypotheses{value(7, 3), value(9, 8), far, far}, of(9, 8), 0},
		{hypotheses{value(least, least), far, far, value(greatest, greatest)}, of(least, greatest), greatest},
		{hypotheses{far, value(0, 0), value(greatest, greatest), far}, of(0, greatest), greatest},
		{hypotheses{far, value(least, -1), value(greatest, greatest), far}, of(least, greatest), greatest},
		{hypotheses{far, value(least, 0), value(greatest-1, greatest), far}, of(least, greatest), greatest - 1},
		{hypotheses{value(least, greatest), value(least, least), value(0, 0), far}, of(least, greatest), greatest},
	} {
		is(t, call("Hull", c.l), triple.Hull(c.l), c.hull)
		is(t, call("Spread", c.l), triple.Spread(c.l), c.spread)
	}
}

// P30.6, P30.8: the bias, and what those that are refuted still have, says nothing.
func TestP6And8OfValuesAlone(t *testing.T) {
	r := rand.New(rand.NewSource(5))
	for range 20000 {
		l := anyHypotheses(r)
		hull, spread := triple.Hull(l), triple.Spread(l)
		for i := range l {
			l[i].Bias = anySpan(r)
			if l[i].Refuted {
				l[i].Value = anySpan(r)
			}
		}
		is(t, call("Hull", l), triple.Hull(l), hull)
		is(t, call("Spread", l), triple.Spread(l), spread)
	}
}

// hulled is Hull by the chapter's words: of those empty ones that are alone the last one, as it is.
func hulled(l hypotheses) api.Span {
	all := none
	for _, o := range l {
		switch {
		case o.Refuted || all.Lo <= all.Hi && o.Value.Hi < o.Value.Lo:
		case all.Hi < all.Lo:
			all = o.Value
		default:
			all = of(min(all.Lo, o.Value.Lo), max(all.Hi, o.Value.Hi))
		}
	}
	return all
}

// apart is how far two spans are apart, held at the greatest number.
func apart(a, b api.Span) int64 {
	if a.Hi < a.Lo || b.Hi < b.Lo {
		return 0
	}
	if b.Hi < a.Lo {
		a, b = b, a
	}
	gap := new(big.Int).Sub(big.NewInt(b.Lo), big.NewInt(a.Hi))
	switch {
	case gap.Sign() <= 0:
		return 0
	case gap.IsInt64():
		return gap.Int64()
	}
	return greatest
}

// spread is Spread by the chapter's words.
func spread(l hypotheses) int64 {
	var far int64
	for i := range l {
		for j := range i {
			if !l[i].Refuted && !l[j].Refuted {
				far = max(far, apart(l[i].Value, l[j].Value))
			}
		}
	}
	return far
}

// P30.6, P30.8, of hypotheses of all kinds.
func TestP6And8(t *testing.T) {
	r := rand.New(rand.NewSource(6))
	for range 200000 {
		l := anyHypotheses(r)
		is(t, call("Hull", l), triple.Hull(l), hulled(l))
		is(t, call("Spread", l), triple.Spread(l), spread(l))
	}
}

// P30.6, P30.8, of small spans, number by number.
func TestP6And8OneByOne(t *testing.T) {
	r := rand.New(rand.NewSource(7))
	for range 5000 {
		var l hypotheses
		for i := range l {
			lo := r.Int63n(30)
			l[i] = api.Observer{Value: of(lo, lo+r.Int63n(6)), Refuted: r.Intn(4) == 0}
		}
		all := none
		for x := range int64(40) {
			for _, o := range l {
				if !o.Refuted && o.Value.Lo <= x && x <= o.Value.Hi {
					if all == none {
						all.Lo = x
					}
					all.Hi = x
				}
			}
		}
		is(t, call("Hull", l), triple.Hull(l), all)
		far := int64(0)
		for _, a := range l {
			for _, b := range l {
				if !a.Refuted && !b.Refuted {
					far = max(far, nearest(a.Value, b.Value))
				}
			}
		}
		is(t, call("Spread", l), triple.Spread(l), far)
	}
}

// nearest is how far the nearest numbers of both are apart, all of them tried.
func nearest(a, b api.Span) int64 {
	near := greatest
	for x := a.Lo; x <= a.Hi; x++ {
		for y := b.Lo; y <= b.Hi; y++ {
			near = min(near, max(x-y, y-x))
		}
	}
	return near
}

// truth is how it really is.
type truth struct{ value, bias int64 }

// reading is what a good source reads of it that is off by off.
func (w truth) reading(a api.Air, source int, off int64) int64 {
	if a.Biased[source] {
		return w.value + w.bias + off
	}
	return w.value + off
}

// within brings x to at most most, either way.
func within(x, most int64) int64 { return max(-most, min(most, x)) }

// shift is a number of at most most, either way: as great as may be more often than not.
func shift(r *rand.Rand, most int64) int64 {
	switch r.Intn(4) {
	case 0:
		return most
	case 1:
		return -most
	case 2:
		return 0
	}
	return r.Int63n(2*most+1) - most
}

// next is how it may be a tick behind w; for long it goes one way, by dir.
func (w truth) next(r *rand.Rand, a api.Air, dir int64) truth {
	by := shift(r, a.Move)
	if r.Intn(3) > 0 {
		by = dir * a.Move
	}
	return truth{within(w.value+by, a.Most), within(w.bias+shift(r, a.Change), a.Bias)}
}

// sent is what three sources read of w, the bad one anything, often just beyond what a good one may.
func sent(r *rand.Rand, a api.Air, w truth, bad int) [3]int64 {
	var x [3]int64
	for i := range x {
		x[i] = w.reading(a, i, shift(r, a.Eps[i]))
		if i == bad && r.Intn(3) == 0 {
			x[i] = w.reading(a, i, shift(r, 2*a.Eps[i]+3))
		}
		if i == bad && r.Intn(6) == 0 {
			x[i] = anyNumber(r)
		}
	}
	return x
}

// P30.9, P30.10: what follows of one tick, where the source bad is (-1: none).
func follows(t *testing.T, what asked, l hypotheses, w truth, bad int) {
	t.Helper()
	if own := l[bad+1]; !observer.Has(own, w.value, w.bias) {
		t.Fatalf("%s: %+v, and it is %+v, with %d bad", what, own, w, bad)
	}
	if told := triple.Bad(l); told != -1 && told != bad {
		t.Fatalf("%s: %d is told as bad, not %d", what, told, bad)
	}
	if h := triple.Hull(l); w.value < h.Lo || h.Hi < w.value {
		t.Fatalf("%s: in %+v, and it is %+v", what, h, w)
	}
	if bad >= 0 && triple.Blame(l)[bad] != 1 {
		t.Fatalf("%s: %d is not blamed", what, bad)
	}
	if status := triple.Status(l); status == api.AirLost || status == api.AirOne && bad < 0 {
		t.Fatalf("%s: status %d, with %d bad", what, status, bad)
	}
	counted(t, l)
}

// counted is P30.10.
func counted(t *testing.T, l hypotheses) {
	t.Helper()
	n := 0
	for _, may := range triple.Blame(l) {
		n += may
	}
	if triple.Status(l) == api.AirGood {
		n++
	}
	is(t, call("Alive", l), triple.Alive(l), n)
}

// P30.10, of all kinds.
func TestP10(t *testing.T) {
	r := rand.New(rand.NewSource(8))
	for range 20000 {
		counted(t, anyHypotheses(r))
	}
}

// P30.9, over long courses of airs that may be.
func TestP9Courses(t *testing.T) {
	r := rand.New(rand.NewSource(9))
	l := append(airs(r, 0), api.Air{Eps: [3]int64{1 << 20, 1 << 20, 1 << 20}, Biased: mask(5), Bias: 1 << 20, Change: 1 << 20, Move: 1 << 20, Most: api.MaxAir})
	found := 0
	for _, a := range l {
		for course := range 60 {
			bad, dir := course%4-1, int64(1)
			w := truth{within(shift(r, a.Most), a.Most), shift(r, a.Bias)}
			all := triple.Start(a)
			for range 150 {
				x, there := sent(r, a, w, bad), mask(r.Intn(8)|r.Intn(8))
				was := all
				all = triple.Step(a, all, x, there)
				follows(t, call("Step", a, was, x, there), all, w, bad)
				if r.Intn(30) == 0 {
					dir = -dir
				}
				w = w.next(r, a, dir)
			}
			if bad >= 0 && triple.Bad(all) == bad {
				found++
			}
		}
	}
	if found < 200 {
		t.Fatalf("%d were found", found)
	}
}

// offs hands out all three numbers that three sources may be off by.
func offs(eps [3]int64, out func(off [3]int64)) {
	for i := -eps[0]; i <= eps[0]; i++ {
		for j := -eps[1]; j <= eps[1]; j++ {
			for k := -eps[2]; k <= eps[2]; k++ {
				out([3]int64{i, j, k})
			}
		}
	}
}

// truths hands out all that may be, from there on in a tick.
func truths(a api.Air, w truth, out func(w truth)) {
	for v := max(-a.Most, w.value-a.Move); v <= min(a.Most, w.value+a.Move); v++ {
		for b := max(-a.Bias, w.bias-a.Change); b <= min(a.Bias, w.bias+a.Change); b++ {
			out(truth{v, b})
		}
	}
}

// P30.9, of all courses of two ticks of small numbers, the bad source reading what no good one may.
func TestP9TwoTicks(t *testing.T) {
	for bits := range 8 {
		a := api.Air{Eps: [3]int64{1, 0, 1}, Biased: mask(bits), Bias: 1, Change: 1, Move: 1, Most: 2}
		free := a
		free.Move, free.Change = 2*a.Most, 2*a.Bias
		for bad := -1; bad < 3; bad++ {
			tick := func(l hypotheses, w truth, out func(l hypotheses)) {
				offs(a.Eps, func(off [3]int64) {
					var x [3]int64
					for i := range x {
						x[i] = w.reading(a, i, off[i])
						if i == bad {
							x[i] = 5 - 7*off[i]
						}
					}
					now := triple.Step(a, l, x, mask(7))
					follows(t, call("Step", a, l, x), now, w, bad)
					out(now)
				})
			}
			truths(free, truth{}, func(first truth) {
				tick(triple.Start(a), first, func(l hypotheses) {
					truths(a, first, func(second truth) { tick(l, second, func(hypotheses) {}) })
				})
			})
		}
	}
}

// P30.9: each premise is needed just as it stands: with a second source that is off by 1 more than it may, a good one is told as bad.
func TestP9Beyond(t *testing.T) {
	a := api.Air{Eps: [3]int64{1, 1, 1}, Move: 2, Most: 50}
	for _, c := range []struct {
		x      [3]int64
		bad    int
		status int
	}{
		{[3]int64{11, 9, 10}, -1, api.AirGood},
		{[3]int64{11, 9, 30}, 2, api.AirOne},
		{[3]int64{12, 9, 30}, -1, api.AirLost},
		{[3]int64{12, 10, 30}, 2, api.AirOne},
		{[3]int64{30, 9, 30}, 1, api.AirOne},
	} {
		l := triple.Step(a, triple.Start(a), c.x, mask(7))
		is(t, call("Bad", c), triple.Bad(l), c.bad)
		is(t, call("Status", c), triple.Status(l), c.status)
	}
}

// R1, R4: whatever is handed in, all calls end, and answer the same again.
func TestAnyArguments(t *testing.T) {
	r := rand.New(rand.NewSource(10))
	ends := []int64{least, least + 1, -1, 0, 1, greatest - 1, greatest}
	end := func() int64 { return ends[r.Intn(len(ends))] }
	for range 20000 {
		a := api.Air{Eps: [3]int64{end(), end(), end()}, Biased: mask(r.Intn(8)), Bias: end(), Change: end(), Move: end(), Most: end()}
		var l hypotheses
		for i := range l {
			l[i] = api.Observer{Value: of(end(), end()), Bias: of(end(), end()), Refuted: r.Intn(4) == 0}
		}
		x, there := [3]int64{end(), end(), end()}, mask(r.Intn(8))
		is(t, call("Start", a), triple.Start(a), triple.Start(a))
		is(t, call("Step", a, l, x, there), triple.Step(a, l, x, there), triple.Step(a, l, x, there))
		is(t, call("all", l), tell(l), tell(l))
	}
}
