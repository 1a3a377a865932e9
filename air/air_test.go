package air_test

import (
	"fmt"
	"math"
	"math/big"
	"math/rand"
	"slices"
	"strings"
	"testing"

	"teetotum/air"
	"teetotum/api"
	"teetotum/config"
	"teetotum/observer"
	"teetotum/triple"
)

const (
	greatest int64 = math.MaxInt64
	least    int64 = math.MinInt64
)

// hypotheses are four of them.
type hypotheses = [4]api.Observer

// none is the empty span, as it is answered.
var none = api.Span{Lo: 1, Hi: 0}

// asked is a call, written out only where it is told.
type asked struct {
	name string
	args []any
}

func call(name string, args ...any) asked { return asked{name, args} }

func (a asked) String() string {
	var words []string
	for _, x := range a.args {
		words = append(words, fmt.Sprintf("%+v", x))
	}
	return a.name + " of " + strings.Join(words, ", ")
}

// is fails if got is not want.
func is[T comparable](t *testing.T, what asked, got, want T) {
	t.Helper()
	if got != want {
		t.Fatalf("%s: %+v, want %+v", what, got, want)
	}
}

func of(lo, hi int64) api.Span { return api.Span{Lo: lo, Hi: hi} }

// knows is a hypothesis that is alive.
func knows(value, bias api.Span) api.Observer { return api.Observer{Value: value, Bias: bias} }

// bias is a hypothesis that is alive, of that bias.
func bias(lo, hi int64) api.Observer { return knows(of(-5, 5), of(lo, hi)) }

// part is what Part answers.
type part struct {
	x     [3]int64
	there [3]bool
}

func parted(r api.Read, from int) part {
	x, there := air.Part(r, from)
	return part{x, there}
}

// both is what Both answers.
type both struct{ alt, speed api.Span }

func boths(c api.Config, reads []api.Read) both {
	alt, speed := air.Both(c, reads)
	return both{alt, speed}
}

// trended is what Trend answers.
type trended struct {
	sum api.Span
	err api.Errno
}

func trend(l []api.Span, move int64) trended {
	sum, err := air.Trend(l, move)
	return trended{sum, err}
}

// mask are three bools, by bits.
func mask(bits int) [3]bool {
	return [3]bool{bits&1 == 1, bits&2 == 2, bits&4 == 4}
}

// edges are numbers that may be, ones that are too great or below 0, and those near the ends of the room.
var edges = []int64{0, 1, 2, 5, 20, 200, 1000, 60000, 1 << 20, api.MaxAir, 1 << 32, 1 << 62, greatest - 1, greatest, -1, -2, -7, -300, -api.MaxAir, -1 << 62, 1 - greatest, -greatest, least}

// anyNumber is near 0 more often than not.
func anyNumber(r *rand.Rand) int64 {
	switch r.Intn(4) {
	case 0:
		return edges[r.Intn(len(edges))]
	case 1:
		return r.Int63n(400) - 200
	}
	return r.Int63n(41) - 20
}

func anySpan(r *rand.Rand) api.Span {
	a, b := anyNumber(r), anyNumber(r)
	if a > b && r.Intn(8) > 0 {
		a, b = b, a
	}
	return of(a, b)
}

func anyAir(r *rand.Rand) api.Air {
	a := api.Air{Biased: mask(r.Intn(8)), Bias: anyNumber(r), Change: anyNumber(r), Move: anyNumber(r), Most: anyNumber(r)}
	for i := range a.Eps {
		a.Eps[i] = anyNumber(r)
	}
	return a
}

// anyHypotheses are refuted, each for itself, once in three times.
func anyHypotheses(r *rand.Rand) hypotheses {
	var l hypotheses
	for i := range l {
		l[i] = api.Observer{Value: anySpan(r), Bias: anySpan(r), Refuted: r.Intn(3) == 0}
	}
	return l
}

// anyRead has a reading of two sources out of three, and numbers also where there is none.
func anyRead(r *rand.Rand) api.Read {
	var read api.Read
	for i := range read.Value {
		read.Value[i], read.There[i] = anyNumber(r), r.Intn(3) > 0
	}
	return read
}

// configs are the usual one, small ones of all kinds of biased, and n others, whose numbers are of all kinds.
func configs(r *rand.Rand, n int) []api.Config {
	l := []api.Config{config.Usual(), {}}
	for bits := range 8 {
		l = append(l, small(bits))
	}
	for range n {
		l = append(l, api.Config{Alt: anyAir(r), Speed: anyAir(r)})
	}
	return l
}

// small is a configuration of small numbers, with sources biased by bits: those of the speed that are not of the altitude.
func small(bits int) api.Config {
	return api.Config{
		Alt:   api.Air{Eps: [3]int64{2, 1, 0}, Biased: mask(bits), Bias: 3, Change: 1, Move: 2, Most: 9},
		Speed: api.Air{Eps: [3]int64{1, 3, 2}, Biased: mask(^bits), Bias: 8, Change: 0, Move: 1, Most: 20},
	}
}

// numbered is a tick in which each source reads its own number and 100, those of there alone.
func numbered(there ...int) api.Read {
	var r api.Read
	for i := range r.Value {
		r.Value[i], r.There[i] = int64(100+i), slices.Contains(there, i)
	}
	return r
}

// P31.1 by hand: three sources' readings, from the first three to the last three, and none beyond.
func TestP1PartByHand(t *testing.T) {
	r := numbered(0, 2, 3, 6, 7, 10, 11)
	for _, c := range []struct {
		from int
		want part
	}{
		{0, part{[3]int64{100, 101, 102}, [3]bool{true, false, true}}},
		{1, part{[3]int64{101, 102, 103}, [3]bool{false, true, true}}},
		{5, part{[3]int64{105, 106, 107}, [3]bool{false, true, true}}},
		{6, part{[3]int64{106, 107, 108}, [3]bool{true, true, false}}},
		{8, part{[3]int64{108, 109, 110}, [3]bool{false, false, true}}},
		{9, part{[3]int64{109, 110, 111}, [3]bool{false, true, true}}},
		{10, part{}},
		{11, part{}},
		{12, part{}},
		{-1, part{}},
		{-2, part{}},
		{-3, part{}},
		{math.MaxInt, part{}},
		{math.MaxInt - 2, part{}},
		{math.MinInt, part{}},
	} {
		is(t, call("Part", r, c.from), parted(r, c.from), c.want)
	}
}

// P31.1: source by source.
func TestP1Part(t *testing.T) {
	r := rand.New(rand.NewSource(1))
	for range 2000 {
		read := anyRead(r)
		for from := -20; from < 30; from++ {
			var want part
			for i := range 3 {
				if from >= 0 && from+2 < 12 {
					want.x[i], want.there[i] = read.Value[from+i], read.There[from+i]
				}
			}
			is(t, call("Part", read, from), parted(read, from), want)
		}
	}
}

// P31.2 by hand: the altitude is of the sources 6 to 8, and the configuration's Alt, the speed of 9 to 11, and Speed.
func TestP2ByHand(t *testing.T) {
	c := api.Config{
		Alt:   api.Air{Eps: [3]int64{2, 3, 4}, Move: 5, Most: 100},
		Speed: api.Air{Eps: [3]int64{1, 1, 6}, Biased: [3]bool{false, false, true}, Bias: 10, Change: 2, Move: 1, Most: 90},
	}
	read := api.Read{
		Value: [12]int64{70, 71, 72, 73, 74, 75, 50, 54, 56, 30, 31, 40},
		There: [12]bool{true, true, true, true, true, true, true, true, true, true, true, true},
	}
	zero := of(0, 0)
	alt := hypotheses{knows(of(52, 52), zero), knows(of(52, 57), zero), knows(of(52, 52), zero), knows(of(51, 52), zero)}
	is(t, call("Alt", c, read), air.Alt(c, triple.Start(c.Alt), read), alt)
	speed := hypotheses{
		knows(of(30, 31), of(3, 10)),
		knows(of(30, 32), of(2, 10)),
		knows(of(29, 31), of(3, 10)),
		knows(of(30, 31), of(-10, 10)),
	}
	is(t, call("Speed", c, read), air.Speed(c, triple.Start(c.Speed), read), speed)
	read.There[7], read.There[11] = false, false
	alt = hypotheses{knows(of(52, 52), zero), knows(of(52, 60), zero), knows(of(52, 52), zero), knows(of(48, 52), zero)}
	is(t, call("Alt", c, read), air.Alt(c, triple.Start(c.Alt), read), alt)
	speed = hypotheses{
		knows(of(30, 31), of(-10, 10)),
		knows(of(30, 32), of(-10, 10)),
		knows(of(29, 31), of(-10, 10)),
		knows(of(30, 31), of(-10, 10)),
	}
	is(t, call("Speed", c, read), air.Speed(c, triple.Start(c.Speed), read), speed)
}

// three cuts out the readings of three sources by the chapter's words.
func three(r api.Read, from int) ([3]int64, [3]bool) {
	return [3]int64{r.Value[from], r.Value[from+1], r.Value[from+2]}, [3]bool{r.There[from], r.There[from+1], r.There[from+2]}
}

// P31.2, of configurations, hypotheses and readings of all kinds.
func TestP2(t *testing.T) {
	r := rand.New(rand.NewSource(2))
	alive := 0
	for _, c := range configs(r, 3000) {
		for range 20 {
			l, read := anyHypotheses(r), anyRead(r)
			x, there := three(read, 6)
			want := triple.Step(c.Alt, l, x, there)
			is(t, call("Alt", c, l, read), air.Alt(c, l, read), want)
			alive += triple.Alive(want)
			x, there = three(read, 9)
			want = triple.Step(c.Speed, l, x, there)
			is(t, call("Speed", c, l, read), air.Speed(c, l, read), want)
			alive += triple.Alive(want)
		}
	}
	if alive < 10000 {
		t.Fatalf("%d were alive", alive)
	}
}

// P31.2: no other source, and nothing of the other quantity, is asked.
func TestP2OwnSources(t *testing.T) {
	r := rand.New(rand.NewSource(3))
	for _, c := range configs(r, 2000) {
		l, read := anyHypotheses(r), anyRead(r)
		alt, speed := air.Alt(c, l, read), air.Speed(c, l, read)
		for i := range read.Value {
			other, d := read, c
			other.Value[i], other.There[i] = anyNumber(r), !read.There[i]
			if i < 6 || i > 8 {
				d.Speed = anyAir(r)
				is(t, call("Alt", d, l, other), air.Alt(d, l, other), alt)
			}
			if d = c; i < 9 {
				d.Alt = anyAir(r)
				is(t, call("Speed", d, l, other), air.Speed(d, l, other), speed)
			}
		}
	}
}

// said is a tick in which the six sources of the air read these, all of them.
func said(alt, speed [3]int64) api.Read {
	var r api.Read
	for i := range 3 {
		r.Value[6+i], r.There[6+i] = alt[i], true
		r.Value[9+i], r.There[9+i] = speed[i], true
	}
	return r
}

// P31.3 by hand; the first one is the chapter's example, and the last one that both baros agree, and GPS does not.
func TestP3ByHand(t *testing.T) {
	anywhere := both{of(-60000, 60000), of(-1000, 1000)}
	for _, c := range []struct {
		reads []api.Read
		want  both
	}{
		{nil, anywhere},
		{[]api.Read{}, anywhere},
		{[]api.Read{{}}, anywhere},
		{[]api.Read{{}, {}, {}}, anywhere},
		{[]api.Read{numbered()}, anywhere},
		{[]api.Read{numbered(0, 1, 2, 3, 4, 5)}, anywhere},
		{[]api.Read{numbered(6)}, anywhere},
		{[]api.Read{numbered(6, 8)}, both{of(-99, 311), anywhere.speed}},
		{[]api.Read{numbered(9, 10)}, both{anywhere.alt, of(105, 114)}},
		{[]api.Read{numbered(9, 10), {}}, both{anywhere.alt, of(90, 129)}},
		{[]api.Read{said([3]int64{1000, 1004, 1010}, [3]int64{100, 103, 110}), {}}, both{of(779, 1225), of(81, 122)}},
		{[]api.Read{said([3]int64{1000, 1004, 1500}, [3]int64{100, 103, 400})}, both{of(799, 1205), of(99, 104)}},
	} {
		is(t, call("Both", c.reads), boths(config.Usual(), c.reads), c.want)
	}
}

// P31.3: reading by reading, behind each one of a course.
func TestP3(t *testing.T) {
	r := rand.New(rand.NewSource(4))
	for _, c := range configs(r, 1000) {
		alt, speed := triple.Start(c.Alt), triple.Start(c.Speed)
		var reads []api.Read
		for range 12 {
			is(t, call("Both", c, reads), boths(c, reads), both{triple.Hull(alt), triple.Hull(speed)})
			read := anyRead(r)
			reads = append(reads, read)
			x, there := three(read, 6)
			alt = triple.Step(c.Alt, alt, x, there)
			x, there = three(read, 9)
			speed = triple.Step(c.Speed, speed, x, there)
		}
	}
}

// P31.3: the ticks' order counts.
func TestP3Order(t *testing.T) {
	c := config.Usual()
	first := said([3]int64{1000, 1000, 1000}, [3]int64{100, 100, 100})
	second := said([3]int64{1010, 1010, 1010}, [3]int64{110, 110, 110})
	there := boths(c, []api.Read{first, second})
	back := boths(c, []api.Read{second, first})
	if there == back || there.alt.Lo+there.alt.Hi <= back.alt.Lo+back.alt.Hi {
		t.Fatalf("%+v, and the other way %+v", there, back)
	}
}

// P31.4 by hand.
func TestP4ByHand(t *testing.T) {
	for _, c := range []struct {
		old, now api.Span
		move     int64
		want     api.Span
	}{
		{of(0, 0), of(0, 0), 0, of(0, 0)},
		{of(10, 12), of(15, 20), 100, of(3, 10)},
		{of(10, 12), of(15, 20), 10, of(3, 10)},
		{of(10, 12), of(15, 20), 9, of(3, 9)},
		{of(10, 12), of(15, 20), 3, of(3, 3)},
		{of(10, 12), of(15, 20), 2, none},
		{of(15, 20), of(10, 12), 100, of(-10, -3)},
		{of(15, 20), of(10, 12), 9, of(-9, -3)},
		{of(15, 20), of(10, 12), 3, of(-3, -3)},
		{of(15, 20), of(10, 12), 2, none},
		{of(15, 20), of(10, 22), 100, of(-10, 7)},
		{of(15, 20), of(10, 22), 8, of(-8, 7)},
		{of(15, 20), of(10, 22), 6, of(-6, 6)},
		{of(15, 20), of(10, 22), 0, of(0, 0)},
		{of(15, 20), of(10, 22), -1, of(0, 0)},
		{of(15, 20), of(10, 22), -6, of(0, 0)},
		{of(15, 20), of(10, 22), least, of(0, 0)},
		{of(15, 20), of(21, 22), -6, none},
		{of(15, 20), of(21, 22), 0, none},
		{of(1, 0), of(3, 4), 100, none},
		{of(3, 4), of(1, 0), 100, none},
		{of(9, 3), of(3, 4), 100, none},
		{of(3, 4), of(9, 3), 100, none},
		{of(9, 3), of(9, 3), 100, none},
		{of(least, greatest), of(least, greatest), greatest, of(-greatest, greatest)},
		{of(0, 0), of(least, least), greatest, none},
		{of(0, 1), of(least, least+1), greatest, of(-greatest, -greatest)},
		{of(least, least), of(greatest, greatest), greatest, of(greatest, greatest)},
		{of(least, least), of(0, 0), greatest, of(greatest, greatest)},
		{of(least, least), of(-1, -1), greatest - 1, none},
		{of(-1, 0), of(greatest-1, greatest), 7, none},
	} {
		is(t, call("Climb", c.old, c.now, c.move), air.Climb(c.old, c.now, c.move), c.want)
	}
}

// less is a less b, held at the ends of the room.
func less(a, b int64) int64 {
	return held(new(big.Int).Sub(big.NewInt(a), big.NewInt(b)))
}

// held is n, held at the ends of the room.
func held(n *big.Int) int64 {
	switch {
	case n.IsInt64():
		return n.Int64()
	case n.Sign() < 0:
		return least
	}
	return greatest
}

// climb is Climb by the chapter's words.
func climb(old, now api.Span, move int64) api.Span {
	if old.Hi < old.Lo || now.Hi < now.Lo {
		return none
	}
	lo, hi := less(now.Lo, old.Hi), less(now.Hi, old.Lo)
	if move < 0 {
		move = 0
	}
	lo, hi = max(lo, -move), min(hi, move)
	if hi < lo {
		return none
	}
	return of(lo, hi)
}

// P31.4, of spans and moves of all kinds.
func TestP4(t *testing.T) {
	r := rand.New(rand.NewSource(5))
	some := 0
	for range 300000 {
		old, now, move := anySpan(r), anySpan(r), anyNumber(r)
		want := climb(old, now, move)
		is(t, call("Climb", old, now, move), air.Climb(old, now, move), want)
		if want != none {
			some++
		}
	}
	if some < 50000 {
		t.Fatalf("%d were not empty", some)
	}
}

// P31.4, P31.8, of small spans, number by number: by how much a value may change, and no more.
func TestP4OneByOne(t *testing.T) {
	for bits := range 4 * 4 * 4 * 4 {
		old := of(int64(bits%4), int64(bits/4%4))
		now := of(int64(bits/16%4), int64(bits/64%4))
		for move := int64(-2); move < 6; move++ {
			want := none
			for a := old.Lo; a <= old.Hi; a++ {
				for b := now.Lo; b <= now.Hi; b++ {
					by := b - a
					switch {
					case by > max(move, 0) || -by > max(move, 0):
					case want == none:
						want = of(by, by)
					default:
						want = of(min(want.Lo, by), max(want.Hi, by))
					}
				}
			}
			is(t, call("Climb", old, now, move), air.Climb(old, now, move), want)
		}
	}
}

// P31.5 by hand, of those that are alive alone.
func TestP5ByHand(t *testing.T) {
	far := api.Observer{Value: of(1, 2), Bias: of(900, 950), Refuted: true}
	for _, c := range []struct {
		l    hypotheses
		want api.Span
	}{
		{hypotheses{far, far, far, far}, none},
		{hypotheses{}, of(0, 0)},
		{hypotheses{far, bias(3, 7), far, far}, of(3, 7)},
		{hypotheses{bias(3, 7), far, far, far}, of(3, 7)},
		{hypotheses{far, far, far, bias(3, 7)}, of(3, 7)},
		{hypotheses{bias(3, 7), far, far, bias(8, 9)}, of(3, 9)},
		{hypotheses{bias(3, 7), bias(10, 12), bias(-5, 0), far}, of(-5, 12)},
		{hypotheses{bias(5, 5), bias(5, 5), bias(5, 5), bias(4, 4)}, of(4, 5)},
		{hypotheses{far, far, bias(1, 0), far}, none},
		{hypotheses{far, bias(7, 3), far, far}, of(7, 3)},
		{hypotheses{bias(7, 3), bias(20, 22), far, far}, of(20, 22)},
		{hypotheses{bias(20, 22), bias(7, 3), far, bias(24, 24)}, of(20, 24)},
		{hypotheses{bias(7, 3), bias(9, 8), far, far}, of(9, 8)},
		{hypotheses{bias(least, least), far, far, bias(greatest, greatest)}, of(least, greatest)},
	} {
		is(t, call("Bias", c.l), air.Bias(c.l), c.want)
	}
}

// biased is Bias by the chapter's words: of those empty ones that are alone the last one, as it is.
func biased(l hypotheses) api.Span {
	all := none
	for _, o := range l {
		switch {
		case o.Refuted || all.Lo <= all.Hi && o.Bias.Hi < o.Bias.Lo:
		case all.Hi < all.Lo:
			all = o.Bias
		default:
			all = of(min(all.Lo, o.Bias.Lo), max(all.Hi, o.Bias.Hi))
		}
	}
	return all
}

// P31.5, of hypotheses of all kinds; the value, and what those that are refuted still have, says nothing.
func TestP5(t *testing.T) {
	r := rand.New(rand.NewSource(6))
	for range 100000 {
		l := anyHypotheses(r)
		want := biased(l)
		is(t, call("Bias", l), air.Bias(l), want)
		for i := range l {
			l[i].Value = anySpan(r)
			if l[i].Refuted {
				l[i].Bias = anySpan(r)
			}
		}
		is(t, call("Bias", l), air.Bias(l), want)
	}
}

// many are n spans, all the same.
func many(n int, s api.Span) []api.Span {
	return slices.Repeat([]api.Span{s}, n)
}

// P31.6 by hand, with how many there may be.
func TestP6ByHand(t *testing.T) {
	wrong := trended{api.Span{}, api.ErrArg}
	right := func(lo, hi int64) trended { return trended{of(lo, hi), api.OK} }
	for _, c := range []struct {
		l    []api.Span
		move int64
		want trended
	}{
		{nil, 5, wrong},
		{[]api.Span{}, 5, wrong},
		{many(1, of(3, 4)), 5, wrong},
		{many(2, of(3, 4)), 5, right(-1, 1)},
		{many(3, of(3, 4)), 5, right(-2, 2)},
		{many(999, of(3, 4)), 5, right(-998, 998)},
		{many(1000, of(3, 4)), 5, right(-999, 999)},
		{many(1001, of(3, 4)), 5, wrong},
		{many(1002, of(3, 4)), 5, wrong},
		{many(100000, of(3, 4)), 5, wrong},
		{many(1000, of(-5, 5)), 3, right(-2997, 2997)},
		{[]api.Span{of(10, 12), of(15, 20)}, 9, right(3, 9)},
		{[]api.Span{of(10, 12), of(15, 20), of(30, 30)}, 100, right(13, 25)},
		{[]api.Span{of(10, 12), of(15, 20), of(30, 30)}, 12, right(13, 22)},
		{[]api.Span{of(10, 12), of(15, 20), of(30, 30)}, 9, trended{none, api.OK}},
		{[]api.Span{of(30, 30), of(15, 20), of(10, 12)}, 12, right(-22, -13)},
		{[]api.Span{of(10, 12), of(15, 20), of(10, 12)}, 6, right(-3, 3)},
		{[]api.Span{of(1, 0), of(1, 2), of(1, 2)}, 6, trended{none, api.OK}},
		{[]api.Span{of(1, 2), of(9, 4), of(1, 2)}, 6, trended{none, api.OK}},
		{[]api.Span{of(1, 2), of(1, 2), of(9, 4)}, 6, trended{none, api.OK}},
		{[]api.Span{of(9, 4), of(9, 4)}, 6, trended{none, api.OK}},
		{[]api.Span{of(5, 9), of(1, 5), of(3, 9)}, 0, right(0, 0)},
		{[]api.Span{of(5, 9), of(1, 5), of(3, 9)}, -4, right(0, 0)},
		{[]api.Span{of(5, 9), of(1, 4), of(3, 9)}, 0, trended{none, api.OK}},
		{[]api.Span{of(least, least), of(0, 0), of(greatest, greatest)}, greatest, right(greatest, greatest)},
		{[]api.Span{of(greatest, greatest), of(0, 0), of(-greatest, -greatest), of(5, 6)}, greatest, right(-1, -1)},
		{[]api.Span{of(greatest, greatest), of(0, 0), of(-greatest, -greatest), of(-5, -4)}, greatest, right(-6, -5)},
		{many(4, of(least, greatest)), greatest, right(least, greatest)},
		{many(3, of(least, greatest)), greatest / 2, right(1-greatest, greatest-1)},
	} {
		is(t, call("Trend", c.l, c.move), trend(c.l, c.move), c.want)
	}
}

// summed is Trend by the chapter's words.
func summed(l []api.Span, move int64) trended {
	if len(l) < 2 || len(l) > 1000 {
		return trended{api.Span{}, api.ErrArg}
	}
	sum := of(0, 0)
	for i := 0; i+1 < len(l); i++ {
		by := climb(l[i], l[i+1], move)
		if sum == none || by == none {
			sum = none
			continue
		}
		sum.Lo = held(new(big.Int).Add(big.NewInt(sum.Lo), big.NewInt(by.Lo)))
		sum.Hi = held(new(big.Int).Add(big.NewInt(sum.Hi), big.NewInt(by.Hi)))
	}
	return trended{sum, api.OK}
}

// P31.6, of spans of all kinds, and of any number.
func TestP6(t *testing.T) {
	r := rand.New(rand.NewSource(7))
	some := 0
	for range 100000 {
		l := make([]api.Span, r.Intn(6))
		for i := range l {
			l[i] = anySpan(r)
		}
		move := anyNumber(r)
		want := summed(l, move)
		is(t, call("Trend", l, move), trend(l, move), want)
		if want.err == api.OK && want.sum != none {
			some++
		}
	}
	if some < 5000 {
		t.Fatalf("%d were not empty", some)
	}
	for n := range 1010 {
		l := make([]api.Span, n)
		for i := range l {
			lo := r.Int63n(30)
			l[i] = of(lo, lo+30+r.Int63n(9))
		}
		is(t, call("Trend", l), trend(l, 11), summed(l, 11))
	}
}

// truth is how it really is.
type truth struct{ value, bias int64 }

// reading is what a good source reads of it that is off by off.
func (w truth) reading(a api.Air, source int, off int64) int64 {
	if a.Biased[source] {
		return w.value + w.bias + off
	}
	return w.value + off
}

// within brings x to at most most, either way.
func within(x, most int64) int64 { return max(-most, min(most, x)) }

// shift is a number of at most most, either way: as great as may be more often than not.
func shift(r *rand.Rand, most int64) int64 {
	switch r.Intn(4) {
	case 0:
		return most
	case 1:
		return -most
	case 2:
		return 0
	}
	return r.Int63n(2*most+1) - most
}

// next is how it may be a tick behind w; for long it goes one way, by dir.
func (w truth) next(r *rand.Rand, a api.Air, dir int64) truth {
	by := shift(r, a.Move)
	if r.Intn(3) > 0 {
		by = dir * a.Move
	}
	return truth{within(w.value+by, a.Most), within(w.bias+shift(r, a.Change), a.Bias)}
}

// sent is what three sources read of w, the bad one anything, often just beyond what a good one may.
func sent(r *rand.Rand, a api.Air, w truth, bad int) [3]int64 {
	var x [3]int64
	for i := range x {
		x[i] = w.reading(a, i, shift(r, a.Eps[i]))
		if i == bad && r.Intn(3) == 0 {
			x[i] = w.reading(a, i, shift(r, 2*a.Eps[i]+3))
		}
		if i == bad && r.Intn(6) == 0 {
			x[i] = anyNumber(r)
		}
	}
	return x
}

// flight is a course of both quantities, with all that was told of it.
type flight struct {
	c          api.Config
	bad        [2]int
	at         [2]truth
	all        [2]hypotheses
	reads      []api.Read
	began, end [2]int64      // the values at the first and the last tick
	told       [2][]api.Span // where each was told to be
}

// takeOff is a flight ahead of its first tick.
func takeOff(r *rand.Rand, c api.Config, bad [2]int) *flight {
	f := &flight{c: c, bad: bad, all: [2]hypotheses{triple.Start(c.Alt), triple.Start(c.Speed)}}
	for q, a := range f.airs() {
		f.at[q] = truth{within(shift(r, a.Most), a.Most), shift(r, a.Bias)}
		f.began[q] = f.at[q].value
	}
	return f
}

func (f *flight) airs() [2]api.Air { return [2]api.Air{f.c.Alt, f.c.Speed} }

// tick goes on by a tick's readings, of some sources, beside gyros that read anything.
func (f *flight) tick(r *rand.Rand) {
	read := anyRead(r)
	for q, a := range f.airs() {
		x, there := sent(r, a, f.at[q], f.bad[q]), mask(r.Intn(8)|r.Intn(8))
		for i := range 3 {
			read.Value[6+3*q+i], read.There[6+3*q+i] = x[i], there[i]
		}
		f.end[q] = f.at[q].value
	}
	f.reads = append(f.reads, read)
	f.all = [2]hypotheses{air.Alt(f.c, f.all[0], read), air.Speed(f.c, f.all[1], read)}
	for q := range f.all {
		f.told[q] = append(f.told[q], triple.Hull(f.all[q]))
	}
}

// holds is P31.7 and P31.8, of a tick.
func (f *flight) holds(t *testing.T) {
	t.Helper()
	b := boths(f.c, f.reads)
	for q, told := range [2]api.Span{b.alt, b.speed} {
		w := f.at[q]
		if w.value < told.Lo || told.Hi < w.value {
			t.Fatalf("quantity %d: in %+v, and it is %+v", q, told, w)
		}
		is(t, call("Both", f.c, f.reads), told, triple.Hull(f.all[q]))
		if own := f.all[q][f.bad[q]+1]; !observer.Has(own, w.value, w.bias) {
			t.Fatalf("quantity %d: %+v, and it is %+v, with %d bad", q, own, w, f.bad[q])
		}
		if bias := air.Bias(f.all[q]); w.bias < bias.Lo || bias.Hi < w.bias {
			t.Fatalf("quantity %d: bias in %+v, and it is %+v", q, bias, w)
		}
		f.climbs(t, q)
	}
}

// climbs is P31.8, from the first tick on.
func (f *flight) climbs(t *testing.T, q int) {
	t.Helper()
	l, move := f.told[q], f.airs()[q].Move
	if len(l) < 2 {
		is(t, call("Trend", l, move), trend(l, move), trended{api.Span{}, api.ErrArg})
		return
	}
	got, by := trend(l, move), f.end[q]-f.began[q]
	if got.err != api.OK || by < got.sum.Lo || got.sum.Hi < by {
		t.Fatalf("quantity %d: Trend %+v, and it changed by %d", q, got, by)
	}
}

// P31.7, P31.8, over long courses of what may be.
func TestP7And8Courses(t *testing.T) {
	r := rand.New(rand.NewSource(8))
	most := api.Air{Eps: [3]int64{1 << 20, 1 << 20, 1 << 20}, Biased: mask(5), Bias: 1 << 20, Change: 1 << 20, Move: 1 << 20, Most: api.MaxAir}
	l := append(configs(r, 0), api.Config{Alt: most, Speed: most})
	for _, c := range l {
		if c == (api.Config{}) {
			continue
		}
		for course := range 32 {
			f, dir := takeOff(r, c, [2]int{course%4 - 1, course/4%4 - 1}), int64(1)
			for range 60 {
				f.tick(r)
				f.holds(t)
				if r.Intn(30) == 0 {
					dir = -dir
				}
				for q, a := range f.airs() {
					f.at[q] = f.at[q].next(r, a, dir)
				}
			}
		}
	}
}

// P31.7: one bad source of each quantity, at once, is borne; a second one of the same is not promised to be.
func TestP7Beyond(t *testing.T) {
	c := api.Config{
		Alt:   api.Air{Eps: [3]int64{1, 1, 1}, Move: 2, Most: 50},
		Speed: api.Air{Eps: [3]int64{1, 1, 1}, Move: 2, Most: 50},
	}
	for _, f := range []struct {
		alt, speed [3]int64
		want       both
	}{
		{[3]int64{11, 9, 10}, [3]int64{20, 21, 19}, both{of(9, 11), of(19, 21)}},
		{[3]int64{11, 9, 30}, [3]int64{40, 21, 19}, both{of(10, 10), of(20, 20)}},
		{[3]int64{30, 9, 30}, [3]int64{40, 21, 19}, both{of(29, 31), of(20, 20)}},
		{[3]int64{12, 9, 30}, [3]int64{40, 21, 19}, both{none, of(20, 20)}},
		{[3]int64{12, 10, 30}, [3]int64{40, 22, 19}, both{of(11, 11), none}},
	} {
		is(t, call("Both", f), boths(c, []api.Read{said(f.alt, f.speed)}), f.want)
	}
}

// P31.8, of all courses of four ticks of small numbers, and of values near the ends of the room.
func TestP8(t *testing.T) {
	const move = 2
	for _, base := range []int64{0, greatest - 30, least + 30} {
		for course := range 5 * 5 * 5 * 27 {
			at, l := base, []api.Span{of(base-1, base+1)}
			for tick := range 3 {
				by := int64(course/[3]int{1, 5, 25}[tick]%5 - move)
				wide := int64(course / 125 / [3]int{1, 3, 9}[tick] % 3)
				old := l[tick]
				at += by
				l = append(l, of(at-wide, at+2-wide))
				if c := air.Climb(old, l[tick+1], move); by < c.Lo || c.Hi < by {
					t.Fatalf("%s: %+v, and it changed by %d", call("Climb", old, l[tick+1]), c, by)
				}
				if got := trend(l, move); got.err != api.OK || at-base < got.sum.Lo || got.sum.Hi < at-base {
					t.Fatalf("%s: %+v, and it changed by %d", call("Trend", l), got, at-base)
				}
			}
		}
	}
}

// P31.8: it is needed that a value changes by no more than move.
func TestP8Beyond(t *testing.T) {
	old, now := of(10, 10), of(13, 13)
	is(t, call("Climb", old, now, 3), air.Climb(old, now, 3), of(3, 3))
	is(t, call("Climb", old, now, 2), air.Climb(old, now, 2), none)
	is(t, call("Trend", old, now, 2), trend([]api.Span{old, now}, 2), trended{none, api.OK})
}

// R3: what is handed in is not changed, nor what lies behind a list's end.
func TestNothingChanged(t *testing.T) {
	r := rand.New(rand.NewSource(9))
	for range 300 {
		reads, spans := make([]api.Read, 9), make([]api.Span, 9)
		for i := range reads {
			reads[i], spans[i] = anyRead(r), anySpan(r)
		}
		wasReads, wasSpans := slices.Clone(reads), slices.Clone(spans)
		n := r.Intn(10)
		air.Both(config.Usual(), reads[:n])
		air.Trend(spans[:n], anyNumber(r))
		if !slices.Equal(reads, wasReads) || !slices.Equal(spans, wasSpans) {
			t.Fatalf("changed: %+v, %+v", reads, spans)
		}
	}
}

// R1, R4: whatever is handed in, all calls end, and answer the same again.
func TestAnyArguments(t *testing.T) {
	r := rand.New(rand.NewSource(10))
	ends := []int64{least, least + 1, -1, 0, 1, greatest - 1, greatest}
	end := func() int64 { return ends[r.Intn(len(ends))] }
	anEnd := func() api.Air {
		return api.Air{Eps: [3]int64{end(), end(), end()}, Biased: mask(r.Intn(8)), Bias: end(), Change: end(), Move: end(), Most: end()}
	}
	for range 20000 {
		c, reads, spans := api.Config{Alt: anEnd(), Speed: anEnd()}, make([]api.Read, 3), make([]api.Span, 3)
		var l hypotheses
		for i := range l {
			l[i] = api.Observer{Value: of(end(), end()), Bias: of(end(), end()), Refuted: r.Intn(4) == 0}
		}
		for i := range reads {
			spans[i] = of(end(), end())
			for j := range reads[i].Value {
				reads[i].Value[j], reads[i].There[j] = end(), r.Intn(4) > 0
			}
		}
		read, from, move := reads[0], int(end()), end()
		is(t, call("Alt", c, l, read), air.Alt(c, l, read), air.Alt(c, l, read))
		is(t, call("Speed", c, l, read), air.Speed(c, l, read), air.Speed(c, l, read))
		is(t, call("Part", read, from), parted(read, from), parted(read, from))
		is(t, call("Both", c, reads), boths(c, reads), boths(c, reads))
		is(t, call("Climb", spans, move), air.Climb(spans[0], spans[1], move), air.Climb(spans[0], spans[1], move))
		is(t, call("Bias", l), air.Bias(l), air.Bias(l))
		is(t, call("Trend", spans, move), trend(spans, move), trend(spans, move))
	}
}
