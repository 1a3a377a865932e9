package observer_test

import (
	"fmt"
	"math"
	"math/big"
	"math/rand"
	"strings"
	"testing"

	"teetotum/api"
	"teetotum/config"
	"teetotum/observer"
)

const (
	greatest int64 = math.MaxInt64
	least    int64 = math.MinInt64
)

// none is the empty span, as it is answered.
var none = api.Span{Lo: 1, Hi: 0}

// refuted is what is left of one that is refuted.
var refuted = api.Observer{Refuted: true}

// asked is a call, written out only where it is told.
type asked struct {
	name string
	args []any
}

func call(name string, args ...any) asked { return asked{name, args} }

func (a asked) String() string {
	var words []string
	for _, x := range a.args {
		words = append(words, fmt.Sprintf("%+v", x))
	}
	return a.name + " of " + strings.Join(words, ", ")
}

// is fails if got is not want.
func is[T comparable](t *testing.T, what asked, got, want T) {
	t.Helper()
	if got != want {
		t.Fatalf("%s: %+v, want %+v", what, got, want)
	}
}

func of(lo, hi int64) api.Span { return api.Span{Lo: lo, Hi: hi} }

// knows is an observer that is not refuted.
func knows(value, bias api.Span) api.Observer { return api.Observer{Value: value, Bias: bias} }

// sums is a + sign b, held at the ends of the room.
func sums(a, b, sign int64) int64 {
	s := new(big.Int).Mul(big.NewInt(b), big.NewInt(sign))
	s.Add(s, big.NewInt(a))
	switch {
	case s.IsInt64():
		return s.Int64()
	case s.Sign() < 0:
		return least
	}
	return greatest
}

func isEmpty(s api.Span) bool { return s.Hi < s.Lo }

// tidy is s, as an empty span is answered.
func tidy(s api.Span) api.Span {
	if isEmpty(s) {
		return none
	}
	return s
}

// wider is s, widened by by.
func wider(s api.Span, by int64) api.Span {
	if isEmpty(s) || by < 0 {
		return s
	}
	return of(sums(s.Lo, by, -1), sums(s.Hi, by, 1))
}

// both is what a and b have in common.
func both(a, b api.Span) api.Span {
	if b.Lo > a.Lo {
		a.Lo = b.Lo
	}
	if b.Hi < a.Hi {
		a.Hi = b.Hi
	}
	return tidy(a)
}

// apart is a less b.
func apart(a, b api.Span) api.Span {
	if isEmpty(a) || isEmpty(b) {
		return none
	}
	return of(sums(a.Lo, b.Hi, -1), sums(a.Hi, b.Lo, -1))
}

// predicted is Predict by the chapter's words.
func predicted(a api.Air, o api.Observer) api.Observer {
	return api.Observer{
		Value:   both(wider(o.Value, a.Move), of(-a.Most, a.Most)),
		Bias:    both(wider(o.Bias, a.Change), of(-a.Bias, a.Bias)),
		Refuted: o.Refuted,
	}
}

// counted are the sources that are asked, those not biased first.
func counted(a api.Air, bad int, there [3]bool) []int {
	var plain, biased []int
	for i, is := range there {
		switch {
		case !is || i == bad:
		case a.Biased[i]:
			biased = append(biased, i)
		default:
			plain = append(plain, i)
		}
	}
	return append(plain, biased...)
}

// stepped is Step by the chapter's words.
func stepped(a api.Air, o api.Observer, bad int, x [3]int64, there [3]bool) api.Observer {
	if o.Refuted {
		return o
	}
	p := predicted(a, o)
	for _, i := range counted(a, bad, there) {
		reads := wider(of(x[i], x[i]), a.Eps[i])
		if a.Biased[i] {
			p.Value = both(p.Value, apart(reads, p.Bias))
			p.Bias = both(p.Bias, apart(reads, p.Value))
		} else {
			p.Value = both(p.Value, reads)
		}
	}
	if isEmpty(p.Value) || isEmpty(p.Bias) {
		return refuted
	}
	return p
}

// mask are three bools, by bits.
func mask(bits int) [3]bool {
	return [3]bool{bits&1 == 1, bits&2 == 2, bits&4 == 4}
}

// edges are numbers that may be, ones that are too great or below 0, and those near the ends of the room.
var edges = []int64{0, 1, 2, 5, 20, 200, 1000, 60000, 1 << 20, 1<<20 + 1, api.MaxAir, 1<<31 - 1, 1 << 32, 1<<62 - 1, 1 << 62, greatest - 1, greatest, -1, -2, -7, -300, -api.MaxAir, -1 << 62, 1 - greatest, -greatest}

// usual are the airs that are known ahead.
func usual() []api.Air {
	c := config.Usual()
	return []api.Air{c.Alt, c.Speed}
}

// airs are the usual ones, small ones of all kinds of biased, and n others, whose numbers are of all kinds.
func airs(r *rand.Rand, n int) []api.Air {
	l := append(usual(), api.Air{})
	for bits := range 8 {
		l = append(l,
			api.Air{Eps: [3]int64{2, 1, 0}, Biased: mask(bits), Bias: 3, Change: 1, Move: 2, Most: 9},
			api.Air{Eps: [3]int64{1, 3, 2}, Biased: mask(bits), Bias: 8, Change: 0, Move: 0, Most: 20})
	}
	for range n {
		l = append(l, anyAir(r))
	}
	return l
}

// anyNumber is near 0 more often than not.
func anyNumber(r *rand.Rand) int64 {
	switch r.Intn(4) {
	case 0:
		return edges[r.Intn(len(edges))]
	case 1:
		return r.Int63n(400) - 200
	}
	return r.Int63n(41) - 20
}

func anySpan(r *rand.Rand) api.Span {
	a, b := anyNumber(r), anyNumber(r)
	if a > b && r.Intn(8) > 0 {
		a, b = b, a
	}
	return of(a, b)
}

func anyAir(r *rand.Rand) api.Air {
	a := api.Air{Biased: mask(r.Intn(8)), Bias: anyNumber(r), Change: anyNumber(r), Move: anyNumber(r), Most: anyNumber(r)}
	for i := range a.Eps {
		a.Eps[i] = anyNumber(r)
	}
	return a
}

func anyObserver(r *rand.Rand) api.Observer {
	return api.Observer{Value: anySpan(r), Bias: anySpan(r), Refuted: r.Intn(8) == 0}
}

// P29.1: as far as the value and the bias may be, either way.
func TestP1StartByHand(t *testing.T) {
	for _, c := range []struct {
		most, bias  int64
		value, wide api.Span
	}{
		{60000, 200, of(-60000, 60000), of(-200, 200)},
		{1000, 80, of(-1000, 1000), of(-80, 80)},
		{1, 0, of(-1, 1), of(0, 0)},
		{0, 0, of(0, 0), of(0, 0)},
		{0, 3, of(0, 0), of(-3, 3)},
		{api.MaxAir, 1 << 20, of(-api.MaxAir, api.MaxAir), of(-(1 << 20), 1<<20)},
		{greatest, greatest, of(-greatest, greatest), of(-greatest, greatest)},
	} {
		a := api.Air{Most: c.most, Bias: c.bias}
		is(t, call("Start", a), observer.Start(a), knows(c.value, c.wide))
	}
}

// P29.1: nothing else of what is known ahead says anything.
func TestP1StartAlone(t *testing.T) {
	r := rand.New(rand.NewSource(1))
	for _, a := range airs(r, 2000) {
		is(t, call("Start", a), observer.Start(a), knows(of(-a.Most, a.Most), of(-a.Bias, a.Bias)))
	}
}

// P29.2: widened, and no greater than may be.
func TestP2PredictByHand(t *testing.T) {
	a := api.Air{Eps: [3]int64{7, 7, 7}, Bias: 10, Change: 2, Move: 5, Most: 100}
	for _, c := range []struct{ o, want api.Observer }{
		{knows(of(3, 7), of(-1, 4)), knows(of(-2, 12), of(-3, 6))},
		{knows(of(0, 0), of(0, 0)), knows(of(-5, 5), of(-2, 2))},
		{knows(of(-95, 95), of(-8, 8)), knows(of(-100, 100), of(-10, 10))},
		{knows(of(-96, 94), of(-9, 7)), knows(of(-100, 99), of(-10, 9))},
		{knows(of(-94, 96), of(-7, 9)), knows(of(-99, 100), of(-9, 10))},
		{knows(of(-100, 100), of(-10, 10)), knows(of(-100, 100), of(-10, 10))},
		{knows(of(100, 100), of(10, 10)), knows(of(95, 100), of(8, 10))},
		{knows(of(-100, -100), of(-10, -10)), knows(of(-100, -95), of(-10, -8))},
		{knows(of(105, 120), of(12, 12)), knows(of(100, 100), of(10, 10))},
		{knows(of(106, 120), of(0, 0)), knows(none, of(-2, 2))},
		{knows(of(0, 0), of(13, 20)), knows(of(-5, 5), none)},
		{knows(of(0, 0), of(-20, -13)), knows(of(-5, 5), none)},
		{knows(of(7, 3), of(4, -1)), knows(none, none)},
		{knows(none, of(1, 1)), knows(none, of(-1, 3))},
		{knows(of(least, greatest), of(least, greatest)), knows(of(-100, 100), of(-10, 10))},
		{knows(of(greatest, greatest), of(least, least)), knows(none, none)},
		{refuted, api.Observer{Value: of(-5, 5), Bias: of(-2, 2), Refuted: true}},
	} {
		is(t, call("Predict", a, c.o), observer.Predict(a, c.o), c.want)
	}
}

// P29.2: by numbers below 0 nothing is widened, and of those too great nothing goes round.
func TestP2PredictEdges(t *testing.T) {
	o := knows(of(3, 7), of(-1, 4))
	for _, c := range []struct {
		a    api.Air
		want api.Observer
	}{
		{api.Air{Bias: 10, Most: 100}, o},
		{api.Air{Bias: 10, Change: -3, Move: -1, Most: 100}, o},
		{api.Air{Bias: 10, Change: greatest, Move: greatest, Most: 100}, knows(of(-100, 100), of(-10, 10))},
		{api.Air{Bias: greatest, Change: greatest, Move: greatest, Most: greatest}, knows(of(3-greatest, greatest), of(-greatest, greatest))},
		{api.Air{Bias: 2, Change: 1, Move: 1, Most: 4}, knows(of(2, 4), of(-2, 2))},
		{api.Air{Bias: 0, Change: 0, Move: 0, Most: 2}, knows(none, of(0, 0))},
		{api.Air{Bias: -1, Change: 1, Move: 1, Most: -1}, knows(none, none)},
		{api.Air{Bias: -1, Change: 1, Move: 1, Most: 5}, knows(of(2, 5), none)},
	} {
		is(t, call("Predict", c.a, o), observer.Predict(c.a, o), c.want)
	}
}

// P29.2, of all kinds of what is known, ahead and so far.
func TestP2Predict(t *testing.T) {
	r := rand.New(rand.NewSource(2))
	for _, a := range airs(r, 3000) {
		for range 40 {
			o := anyObserver(r)
			is(t, call("Predict", a, o), observer.Predict(a, o), predicted(a, o))
		}
	}
}

// plain is an air of three sources that are not biased, and mixed one whose first two are.
var (
	plain = api.Air{Eps: [3]int64{2, 3, 4}, Bias: 10, Change: 2, Move: 5, Most: 100}
	mixed = api.Air{Eps: [3]int64{2, 3, 4}, Biased: [3]bool{true, true, false}, Bias: 10, Change: 2, Move: 5, Most: 100}
)

// step is a Step by hand.
type step struct {
	o     api.Observer
	bad   int
	x     [3]int64
	there string // one byte a source, + if it reads
	want  api.Observer
}

func (s step) reads() [3]bool {
	return [3]bool{s.there[0] == '+', s.there[1] == '+', s.there[2] == '+'}
}

func steps(t *testing.T, a api.Air, l []step) {
	t.Helper()
	for _, s := range l {
		is(t, call("Step", a, s.o, s.bad, s.x, s.there), observer.Step(a, s.o, s.bad, s.x, s.reads()), s.want)
	}
}

// P29.3, of sources that are not biased: the chapter's example first.
func TestP3StepPlainByHand(t *testing.T) {
	start := knows(of(-100, 100), of(-10, 10))
	steps(t, plain, []step{
		{start, -1, [3]int64{5, 0, 0}, "+..", knows(of(3, 7), of(-10, 10))},
		{start, -1, [3]int64{5, 0, 0}, "...", start},
		{start, -1, [3]int64{5, 8, 0}, "++.", knows(of(5, 7), of(-10, 10))},
		{start, -1, [3]int64{5, 10, 6}, "+++", knows(of(7, 7), of(-10, 10))},
		{start, -1, [3]int64{5, 11, 6}, "+++", refuted},
		{start, 0, [3]int64{5, 11, 6}, "+++", knows(of(8, 10), of(-10, 10))},
		{start, 1, [3]int64{5, 11, 6}, "+++", knows(of(3, 7), of(-10, 10))},
		{start, 2, [3]int64{5, 11, 6}, "+++", refuted},
		{start, -1, [3]int64{5, 11, 6}, "+.+", knows(of(3, 7), of(-10, 10))},
		{start, -1, [3]int64{101, 0, 0}, "+..", knows(of(99, 100), of(-10, 10))},
		{start, -1, [3]int64{102, 0, 0}, "+..", knows(of(100, 100), of(-10, 10))},
		{start, -1, [3]int64{103, 0, 0}, "+..", refuted},
		{start, -1, [3]int64{-103, 0, 0}, "+..", refuted},
		{start, 0, [3]int64{103, 0, 0}, "+..", start},
		{start, 3, [3]int64{103, 0, 0}, "+..", refuted},
		{start, -4, [3]int64{103, 0, 0}, "+..", refuted},
		{knows(of(3, 7), of(0, 1)), -1, [3]int64{}, "...", knows(of(-2, 12), of(-2, 3))},
		{knows(of(3, 7), of(0, 1)), -1, [3]int64{14, 0, 0}, "+..", knows(of(12, 12), of(-2, 3))},
		{knows(of(3, 7), of(0, 1)), -1, [3]int64{15, 0, 0}, "+..", refuted},
		{knows(of(3, 7), of(0, 1)), -1, [3]int64{-4, 0, 0}, "+..", knows(of(-2, -2), of(-2, 3))},
		{knows(of(3, 7), of(0, 1)), -1, [3]int64{-5, 0, 0}, "+..", refuted},
		{start, -1, [3]int64{greatest, 0, 0}, "+..", refuted},
		{start, -1, [3]int64{least, 0, 0}, "+..", refuted},
	})
}

// P29.3, of sources that are biased: the value by what the bias may be, then the bias by what the value may be.
func TestP3StepBiasedByHand(t *testing.T) {
	start := knows(of(-100, 100), of(-10, 10))
	steps(t, mixed, []step{
		{start, -1, [3]int64{50, 0, 0}, "+..", knows(of(38, 62), of(-10, 10))},
		{start, -1, [3]int64{50, 0, 40}, "+.+", knows(of(38, 44), of(4, 10))},
		{start, -1, [3]int64{50, 0, 40}, "..+", knows(of(36, 44), of(-10, 10))},
		{start, -1, [3]int64{50, 57, 40}, "+++", knows(of(44, 44), of(10, 10))},
		{start, -1, [3]int64{50, 52, 40}, "+++", knows(of(39, 44), of(5, 10))},
		{start, -1, [3]int64{50, 52, 40}, "++.", knows(of(39, 62), of(-10, 10))},
		{start, -1, [3]int64{50, 58, 40}, "+++", refuted},
		{start, 0, [3]int64{50, 57, 40}, "+++", knows(of(44, 44), of(10, 10))},
		{start, 1, [3]int64{50, 58, 40}, "+++", knows(of(38, 44), of(4, 10))},
		{start, 2, [3]int64{50, 58, 40}, "+++", knows(of(45, 62), of(-7, 10))},
		{start, 2, [3]int64{50, 80, 40}, "+++", refuted},
		{start, -1, [3]int64{-112, 0, 0}, "+..", knows(of(-100, -100), of(-10, -10))},
		{start, -1, [3]int64{-113, 0, 0}, "+..", refuted},
		{start, -1, [3]int64{112, 0, 0}, "+..", knows(of(100, 100), of(10, 10))},
		{start, -1, [3]int64{113, 0, 0}, "+..", refuted},
		{knows(of(20, 20), of(3, 3)), -1, [3]int64{23, 0, 0}, "+..", knows(of(16, 24), of(1, 5))},
		{knows(of(20, 20), of(3, 3)), -1, [3]int64{}, "...", knows(of(15, 25), of(1, 5))},
		{knows(of(20, 20), of(3, 3)), -1, [3]int64{32, 0, 0}, "+..", knows(of(25, 25), of(5, 5))},
		{knows(of(20, 20), of(3, 3)), -1, [3]int64{33, 0, 0}, "+..", refuted},
		{start, -1, [3]int64{greatest, 0, 0}, "+..", refuted},
		{start, -1, [3]int64{least, least, least}, "+++", refuted},
	})
}

// P29.3: where three are biased the later ones are held against what those ahead of them left.
func TestP3StepOneByOneByHand(t *testing.T) {
	a := api.Air{Eps: [3]int64{1, 0, 2}, Biased: [3]bool{true, true, true}, Bias: 4, Move: 1, Most: 20}
	o := knows(of(-19, 9), of(-4, 4))
	steps(t, a, []step{
		{o, -1, [3]int64{15, 0, 0}, "+..", knows(of(10, 10), of(4, 4))},
		{o, -1, [3]int64{12, 13, 0}, "++.", knows(of(9, 10), of(3, 4))},
		{o, -1, [3]int64{12, 13, 15}, "+++", knows(of(9, 10), of(3, 4))},
		{o, -1, [3]int64{12, 13, 16}, "+++", knows(of(10, 10), of(4, 4))},
		{o, -1, [3]int64{12, 14, 0}, "++.", knows(of(10, 10), of(4, 4))},
		{o, -1, [3]int64{12, 15, 0}, "++.", refuted},
		{o, 1, [3]int64{12, 15, 16}, "+++", knows(of(10, 10), of(4, 4))},
		{o, -1, [3]int64{-24, 0, -26}, "+.+", knows(of(-20, -20), of(-4, -4))},
		{o, -1, [3]int64{-24, 0, -27}, "+.+", refuted},
		{o, 2, [3]int64{-24, 0, -27}, "+.+", knows(of(-20, -19), of(-4, -3))},
	})
}

// P29.3: one that is refuted stays as it is, whatever comes.
func TestP3StepRefuted(t *testing.T) {
	r := rand.New(rand.NewSource(3))
	for _, a := range airs(r, 300) {
		for bits := range 8 {
			o := anyObserver(r)
			o.Refuted = true
			x := [3]int64{anyNumber(r), anyNumber(r), anyNumber(r)}
			is(t, call("Step", a, o, -1, x, mask(bits)), observer.Step(a, o, -1, x, mask(bits)), o)
			is(t, call("Step", a, refuted, 1, x, mask(bits)), observer.Step(a, refuted, 1, x, mask(bits)), refuted)
		}
	}
}

// P29.3: where nothing is possible any more it is refuted without a reading, too, and nothing else is left.
func TestP3StepEmpty(t *testing.T) {
	right, narrow := plain, plain
	narrow.Bias, narrow.Most = -1, -1
	for _, c := range []struct {
		a    api.Air
		o    api.Observer
		want api.Observer
	}{
		{right, knows(none, of(0, 0)), refuted},
		{right, knows(of(0, 0), none), refuted},
		{right, knows(of(7, 3), of(0, 0)), refuted},
		{right, knows(of(0, 0), of(5, -5)), refuted},
		{right, knows(of(106, 200), of(0, 0)), refuted},
		{right, knows(of(105, 200), of(0, 0)), knows(of(100, 100), of(-2, 2))},
		{right, knows(of(0, 0), of(13, 20)), refuted},
		{right, knows(of(0, 0), of(12, 20)), knows(of(-5, 5), of(10, 10))},
		{narrow, observer.Start(narrow), refuted},
		{narrow, knows(of(0, 0), of(0, 0)), refuted},
		{api.Air{}, api.Observer{}, api.Observer{}},
	} {
		is(t, call("Step", c.a, c.o), observer.Step(c.a, c.o, -1, [3]int64{}, [3]bool{}), c.want)
	}
}

// P29.3: by an Eps below 0 a reading is not widened; by a great one nothing goes round.
func TestP3StepEdges(t *testing.T) {
	wide := api.Air{Eps: [3]int64{-1, greatest, 0}, Bias: 10, Change: 2, Move: 5, Most: greatest}
	o := knows(of(-50, 50), of(0, 0))
	steps(t, wide, []step{
		{o, -1, [3]int64{7, 0, 0}, "+..", knows(of(7, 7), of(-2, 2))},
		{o, -1, [3]int64{0, greatest, 0}, ".+.", knows(of(0, 55), of(-2, 2))},
		{o, -1, [3]int64{0, least, 0}, ".+.", knows(of(-55, -1), of(-2, 2))},
		{o, -1, [3]int64{0, 1, 0}, ".+.", knows(of(-55, 55), of(-2, 2))},
		{o, -1, [3]int64{0, 0, 55}, "..+", knows(of(55, 55), of(-2, 2))},
		{o, -1, [3]int64{0, 0, 56}, "..+", refuted},
	})
	wide.Biased = [3]bool{true, true, true}
	steps(t, wide, []step{
		{o, -1, [3]int64{7, 0, 0}, "+..", knows(of(5, 9), of(-2, 2))},
		{o, -1, [3]int64{0, greatest, 0}, ".+.", knows(of(-2, 55), of(-2, 2))},
		{o, -1, [3]int64{0, least, 0}, ".+.", knows(of(-55, 1), of(-2, 2))},
		{o, -1, [3]int64{0, 0, 57}, "..+", knows(of(55, 55), of(2, 2))},
		{o, -1, [3]int64{0, 0, 58}, "..+", refuted},
		{o, -1, [3]int64{0, 0, greatest}, "..+", refuted},
		{o, -1, [3]int64{least, 0, 0}, "+..", refuted},
	})
}

// P29.3, of all kinds of what is known, ahead and so far, and of readings.
func TestP3Step(t *testing.T) {
	r := rand.New(rand.NewSource(4))
	alive := 0
	for _, a := range airs(r, 3000) {
		for range 60 {
			o := anyObserver(r)
			bad, there := r.Intn(7)-2, mask(r.Intn(8)|r.Intn(8))
			x := [3]int64{anyNumber(r), anyNumber(r), anyNumber(r)}
			got := observer.Step(a, o, bad, x, there)
			is(t, call("Step", a, o, bad, x, there), got, stepped(a, o, bad, x, there))
			if !got.Refuted {
				alive++
			}
		}
	}
	if alive < 10000 {
		t.Fatalf("%d were not refuted", alive)
	}
}

// P29.3, over courses of readings that nearly fit, from Start on.
func TestP3StepCourses(t *testing.T) {
	r := rand.New(rand.NewSource(5))
	for _, a := range airs(r, 0) {
		for range 300 {
			o, bad, at := observer.Start(a), r.Intn(4)-1, r.Int63n(11)-5
			for range 12 {
				there := mask(r.Intn(8) | r.Intn(8))
				at += r.Int63n(2*a.Move+1) - a.Move
				var x [3]int64
				for i := range x {
					x[i] = at + r.Int63n(2*a.Eps[i]+2) - a.Eps[i]
				}
				got := observer.Step(a, o, bad, x, there)
				is(t, call("Step", a, o, bad, x, there), got, stepped(a, o, bad, x, there))
				o = got
			}
		}
	}
}

// P29.3: of a source that is bad, or does not read, the reading says nothing, and of one that is not there neither does who is bad.
func TestP3StepPassesOver(t *testing.T) {
	r := rand.New(rand.NewSource(6))
	for _, a := range airs(r, 500) {
		for bits := range 8 {
			o, there := observer.Start(a), mask(bits)
			x := [3]int64{r.Int63n(21) - 10, r.Int63n(21) - 10, r.Int63n(21) - 10}
			for bad := range 3 {
				want := observer.Step(a, o, bad, x, there)
				without, other := there, x
				without[bad], other[bad] = false, anyNumber(r)
				is(t, call("Step", a, o, bad, other, there), observer.Step(a, o, bad, other, there), want)
				for _, nobody := range []int{-1, 3, 4, math.MaxInt, math.MinInt, bad} {
					is(t, call("Step", a, o, nobody, other, without), observer.Step(a, o, nobody, other, without), want)
				}
			}
		}
	}
}

// fits is whether a value and a bias are what the sources that count may have read.
func fits(a api.Air, bad int, x [3]int64, there [3]bool, value, bias int64) bool {
	for i := range x {
		off := x[i] - value
		if a.Biased[i] {
			off -= bias
		}
		if there[i] && i != bad && (off > a.Eps[i] || -off > a.Eps[i]) {
			return false
		}
	}
	return true
}

// tried is the least span of all values, and of all biases, that fit, gone through one by one.
func tried(a api.Air, o api.Observer, bad int, x [3]int64, there [3]bool) api.Observer {
	o = predicted(a, o)
	value, bias := none, none
	reach := func(s api.Span, at int64) api.Span {
		if isEmpty(s) {
			return of(at, at)
		}
		return of(min(s.Lo, at), max(s.Hi, at))
	}
	for v := o.Value.Lo; v <= o.Value.Hi; v++ {
		for b := o.Bias.Lo; b <= o.Bias.Hi; b++ {
			if fits(a, bad, x, there, v, b) {
				value, bias = reach(value, v), reach(bias, b)
			}
		}
	}
	if isEmpty(value) {
		return refuted
	}
	return knows(value, bias)
}

// P29.3, of values and biases gone through one by one: where one biased source counts at most, all that does not fit is gone; else nothing that fits.
func TestP3StepOneByOne(t *testing.T) {
	r := rand.New(rand.NewSource(7))
	for range 20000 {
		a := api.Air{Biased: mask(r.Intn(8)), Bias: r.Int63n(5), Change: r.Int63n(3), Move: r.Int63n(3), Most: 1 + r.Int63n(8)}
		var x [3]int64
		for i := range x {
			a.Eps[i], x[i] = r.Int63n(4), r.Int63n(13)-6
		}
		v, b := r.Int63n(9)-4, r.Int63n(5)-2
		o := knows(of(v, v+r.Int63n(4)), of(b, b+r.Int63n(3)))
		bad, there := r.Intn(4)-1, mask(r.Intn(8))
		got, want := observer.Step(a, o, bad, x, there), tried(a, o, bad, x, there)
		biased := 0
		for _, i := range counted(a, bad, there) {
			if a.Biased[i] {
				biased++
			}
		}
		if biased < 2 {
			is(t, call("Step", a, o, bad, x, there), got, want)
		} else if !want.Refuted && (got.Refuted || both(got.Value, want.Value) != want.Value || both(got.Bias, want.Bias) != want.Bias) {
			t.Fatalf("%s: %+v, and %+v fit", call("Step", a, o, bad, x, there), got, want)
		}
	}
}

// P29.4: both ends are had, none beyond them is, and nothing of one that is refuted.
func TestP4HasByHand(t *testing.T) {
	o := knows(of(3, 7), of(-1, 4))
	for _, c := range []struct {
		o           api.Observer
		value, bias int64
		want        bool
	}{
		{o, 5, 0, true},
		{o, 3, -1, true},
		{o, 7, 4, true},
		{o, 3, 4, true},
		{o, 7, -1, true},
		{o, 2, 0, false},
		{o, 8, 0, false},
		{o, 5, -2, false},
		{o, 5, 5, false},
		{o, 8, 5, false},
		{o, 0, 5, false},
		{o, greatest, 0, false},
		{o, 5, least, false},
		{api.Observer{}, 0, 0, true},
		{api.Observer{}, 0, 1, false},
		{api.Observer{}, -1, 0, false},
		{refuted, 0, 0, false},
		{api.Observer{Value: of(3, 7), Bias: of(-1, 4), Refuted: true}, 5, 0, false},
		{knows(none, of(0, 0)), 0, 0, false},
		{knows(none, of(0, 0)), 1, 0, false},
		{knows(of(0, 0), none), 0, 1, false},
		{knows(of(7, 3), of(0, 0)), 5, 0, false},
		{knows(of(least, greatest), of(least, greatest)), least, greatest, true},
		{knows(of(least, greatest), of(least, greatest)), greatest, least, true},
	} {
		is(t, call("Has", c.o, c.value, c.bias), observer.Has(c.o, c.value, c.bias), c.want)
	}
}

// P29.4, of all small spans and numbers.
func TestP4Has(t *testing.T) {
	small := []api.Span{of(-2, 1), of(0, 0), of(1, 2), of(2, 1), none}
	for _, value := range small {
		for _, bias := range small {
			for v := int64(-3); v <= 3; v++ {
				for b := int64(-3); b <= 3; b++ {
					want := value.Lo <= v && v <= value.Hi && bias.Lo <= b && b <= bias.Hi
					o := knows(value, bias)
					is(t, call("Has", o, v, b), observer.Has(o, v, b), want)
					o.Refuted = true
					is(t, call("Has", o, v, b), observer.Has(o, v, b), false)
				}
			}
		}
	}
}

// truth is how it really is.
type truth struct{ value, bias int64 }

// reading is what a good source reads of it that is off by off.
func (w truth) reading(a api.Air, source int, off int64) int64 {
	if a.Biased[source] {
		return w.value + w.bias + off
	}
	return w.value + off
}

// within brings x to at most most, either way.
func within(x, most int64) int64 { return max(-most, min(most, x)) }

// shift is a number of at most most, either way: as great as may be more often than not.
func shift(r *rand.Rand, most int64) int64 {
	switch r.Intn(4) {
	case 0:
		return most
	case 1:
		return -most
	case 2:
		return 0
	}
	return r.Int63n(2*most+1) - most
}

// next is how it may be a tick behind w; for long it goes one way, by dir.
func (w truth) next(r *rand.Rand, a api.Air, dir int64) truth {
	by := shift(r, a.Move)
	if r.Intn(3) > 0 {
		by = dir * a.Move
	}
	return truth{within(w.value+by, a.Most), within(w.bias+shift(r, a.Change), a.Bias)}
}

// sent is what three sources read of w, the bad one anything.
func sent(r *rand.Rand, a api.Air, w truth, bad int) [3]int64 {
	var x [3]int64
	for i := range x {
		x[i] = w.reading(a, i, shift(r, a.Eps[i]))
		if i == bad && r.Intn(3) > 0 {
			x[i] = w.value + anyNumber(r)%(1<<20)
		}
		if i == bad && r.Intn(4) == 0 {
			x[i] = anyNumber(r)
		}
	}
	return x
}

// P29.5, over long courses of airs that may be.
func TestP5Courses(t *testing.T) {
	r := rand.New(rand.NewSource(8))
	l := append(airs(r, 0), api.Air{Eps: [3]int64{1 << 20, 1 << 20, 1 << 20}, Biased: mask(5), Bias: 1 << 20, Change: 1 << 20, Move: 1 << 20, Most: api.MaxAir})
	for _, a := range l {
		for course := range 60 {
			bad, most := course%4-1, a.Most
			w := truth{within(shift(r, most), most), shift(r, a.Bias)}
			o, dir := observer.Start(a), int64(1)
			for range 200 {
				x, there := sent(r, a, w, bad), mask(r.Intn(8)|r.Intn(8))
				was := o
				o = observer.Step(a, o, bad, x, there)
				if !observer.Has(o, w.value, w.bias) {
					t.Fatalf("%s: %+v, and it is %+v", call("Step", a, was, bad, x, there), o, w)
				}
				if r.Intn(30) == 0 {
					dir = -dir
				}
				w = w.next(r, a, dir)
			}
		}
	}
}

// offs hands out all three numbers that three sources may be off by.
func offs(eps [3]int64, out func(off [3]int64)) {
	for i := -eps[0]; i <= eps[0]; i++ {
		for j := -eps[1]; j <= eps[1]; j++ {
			for k := -eps[2]; k <= eps[2]; k++ {
				out([3]int64{i, j, k})
			}
		}
	}
}

// truths hands out all that may be, from there on in a tick.
func truths(a api.Air, w truth, out func(w truth)) {
	for v := max(-a.Most, w.value-a.Move); v <= min(a.Most, w.value+a.Move); v++ {
		for b := max(-a.Bias, w.bias-a.Change); b <= min(a.Bias, w.bias+a.Change); b++ {
			out(truth{v, b})
		}
	}
}

// P29.5, of all courses of two ticks of small numbers, the bad source reading what no good one may.
func TestP5TwoTicks(t *testing.T) {
	for bits := range 8 {
		a := api.Air{Eps: [3]int64{1, 0, 1}, Biased: mask(bits), Bias: 1, Change: 1, Move: 1, Most: 2}
		free := a
		free.Move, free.Change = 2*a.Most, 2*a.Bias
		for bad := -1; bad < 3; bad++ {
			tick := func(o api.Observer, w truth, out func(o api.Observer)) {
				offs(a.Eps, func(off [3]int64) {
					var x [3]int64
					for i := range x {
						x[i] = w.reading(a, i, off[i])
						if i == bad {
							x[i] = 5 - 7*off[i]
						}
					}
					now := observer.Step(a, o, bad, x, mask(7))
					if !observer.Has(now, w.value, w.bias) {
						t.Fatalf("%s: %+v, and it is %+v", call("Step", a, o, bad, x), now, w)
					}
					out(now)
				})
			}
			truths(free, truth{}, func(first truth) {
				tick(observer.Start(a), first, func(o api.Observer) {
					truths(a, first, func(second truth) { tick(o, second, func(api.Observer) {}) })
				})
			})
		}
	}
}

// P29.5: each premise is needed just as it stands: what is beyond it by 1 is refuted.
func TestP5Beyond(t *testing.T) {
	a := api.Air{Eps: [3]int64{0, 0, 1}, Biased: [3]bool{false, true, false}, Bias: 4, Change: 1, Move: 2, Most: 9}
	at := func(o api.Observer, value, bias, third int64) api.Observer {
		return observer.Step(a, o, -1, [3]int64{value, value + bias, third}, mask(7))
	}
	o := at(observer.Start(a), 5, 2, 6)
	is(t, call("first"), o, knows(of(5, 5), of(2, 2)))
	for _, c := range []struct {
		value, bias, third int64
		want               bool
	}{
		{7, 3, 8, true},
		{7, 3, 6, true},
		{3, 1, 2, true},
		{5, 2, 5, true},
		{8, 3, 8, false},
		{2, 1, 2, false},
		{7, 4, 8, false},
		{3, 0, 2, false},
		{7, 3, 9, false},
		{7, 3, 5, false},
	} {
		now := at(o, c.value, c.bias, c.third)
		is(t, call("second", c), observer.Has(now, c.value, c.bias), c.want)
		is(t, call("second", c), now.Refuted, !c.want)
	}
	for _, c := range []struct {
		value, bias int64
		want        bool
	}{{9, 4, true}, {-9, -4, true}, {10, 4, false}, {-10, -4, false}, {9, 5, false}, {-9, -5, false}} {
		is(t, call("alone", c), observer.Has(at(observer.Start(a), c.value, c.bias, c.value), c.value, c.bias), c.want)
	}
}

// R1, R4: whatever is handed in, all calls end, and answer the same again.
func TestAnyArguments(t *testing.T) {
	r := rand.New(rand.NewSource(9))
	ends := []int64{least, least + 1, -1, 0, 1, greatest - 1, greatest}
	end := func() int64 { return ends[r.Intn(len(ends))] }
	for range 20000 {
		a := api.Air{Eps: [3]int64{end(), end(), end()}, Biased: mask(r.Intn(8)), Bias: end(), Change: end(), Move: end(), Most: end()}
		o := api.Observer{Value: of(end(), end()), Bias: of(end(), end()), Refuted: r.Intn(4) == 0}
		bad, x, there := int(end()), [3]int64{end(), end(), end()}, mask(r.Intn(8))
		v, b := end(), end()
		is(t, call("Start", a), observer.Start(a), observer.Start(a))
		is(t, call("Predict", a, o), observer.Predict(a, o), observer.Predict(a, o))
		is(t, call("Step", a, o, bad, x, there), observer.Step(a, o, bad, x, there), observer.Step(a, o, bad, x, there))
		is(t, call("Has", o, v, b), observer.Has(o, v, b), observer.Has(o, v, b))
	}
}
