package hypo_test

import (
	"fmt"
	"math"
	"slices"
	"strings"
	"testing"

	"teetotum/api"
	"teetotum/bank"
	"teetotum/config"
	"teetotum/hypo"
	"teetotum/subset"
)

// asked is a call, written out only where it is told.
type asked struct {
	name string
	args []any
}

func call(name string, args ...any) asked { return asked{name, args} }

func (a asked) String() string {
	var words []string
	for _, x := range a.args {
		words = append(words, fmt.Sprintf("%+v", x))
	}
	return a.name + " of " + strings.Join(words, ", ")
}

// is fails if got is not want.
func is[T comparable](t *testing.T, what asked, got, want T) {
	t.Helper()
	if got != want {
		t.Fatalf("%s: %+v, want %+v", what, got, want)
	}
}

// list fails if got is not want, item by item; nil is as good as empty.
func list(t *testing.T, what asked, got, want []int) {
	t.Helper()
	if !slices.Equal(got, want) {
		t.Fatalf("%s: %d, want %d", what, got, want)
	}
}

// all are the places of all hypotheses, as bits.
const all = 1<<22 - 1

// noGyros are numbers that no gyro has.
var noGyros = []int{math.MinInt, -1 << 32, -6, -1, 6, 7, 15, 63, 64, 1 << 32, math.MaxInt}

// others are bits of a set that say nothing.
var others = []int{0, 64, 1 << 20, 1 << 62, math.MinInt, -64}

// who are the gyros of each hypothesis, in order.
var who = [22][]int{
	{},
	{0}, {1}, {2}, {3}, {4}, {5},
	{0, 1}, {0, 2}, {0, 3}, {0, 4}, {0, 5},
	{1, 2}, {1, 3}, {1, 4}, {1, 5},
	{2, 3}, {2, 4}, {2, 5},
	{3, 4}, {3, 5},
	{4, 5},
}

// ten are the pairs without each gyro, as bits: the tests that it is part of.
var ten = [6]int{
	0b111111111100000,
	0b111111000011110,
	0b111000111011101,
	0b100110110111011,
	0b010101101110111,
	0b001011011101111,
}

// set is gyros as a number's bits.
func set(gyros ...int) int {
	bits := 0
	for _, i := range gyros {
		bits |= 1 << i
	}
	return bits
}

// among is whether all of some are among more.
func among(some, more []int) bool {
	for _, i := range some {
		if !slices.Contains(more, i) {
			return false
		}
	}
	return true
}

// gyros are those in bits 0 to 5.
func gyros(bits int) []int {
	var l []int
	for i := range 6 {
		if bits>>i&1 == 1 {
			l = append(l, i)
		}
	}
	return l
}

// of is a bank in which those pairs have refuted whose bits are 1.
func of(refuted int) api.Bank {
	var b api.Bank
	for pair := range b.Refuted {
		b.Refuted[pair] = refuted>>pair&1 == 1
	}
	return b
}

// only has those hypotheses alive whose places' bits are 1.
func only(places int) [22]bool {
	var alive [22]bool
	for place := range alive {
		alive[place] = places>>place&1 == 1
	}
	return alive
}

// these has just the hypotheses at these places alive.
func these(places ...int) [22]bool { return only(set(places...)) }

// whole are by hypothesis the pairs in which it is whole, as bits.
func whole() [22]int {
	var by [22]int
	for place, some := range who {
		for pair := range 15 {
			if among(some, who[7+pair]) {
				by[place] |= 1 << pair
			}
		}
	}
	return by
}

// eachBank tells of all sets of pairs that may have refuted.
func eachBank(tell func(refuted int, b api.Bank)) {
	for refuted := range 1 << 15 {
		tell(refuted, of(refuted))
	}
}

// lives are which ones may be alive: one, two, all but these, what banks make, and any.
func lives() [][22]bool {
	l := [][22]bool{only(0), only(all)}
	for a := range 22 {
		for b := range a + 1 {
			l = append(l, these(a, b), only(all&^set(a, b)))
		}
	}
	by := whole()
	for refuted := range 1 << 15 {
		if refuted%5 != 0 {
			continue
		}
		places := 0
		for place := range who {
			if by[place]&refuted == 0 {
				places |= 1 << place
			}
		}
		l = append(l, only(places), only(refuted*refuted%all))
	}
	return l
}

// alives are the gyros of each hypothesis that is alive, in order.
func alives(alive [22]bool) [][]int {
	var l [][]int
	for place, some := range who {
		if alive[place] {
			l = append(l, some)
		}
	}
	return l
}

// P23.1: by hand.
func TestP1AliveByHand(t *testing.T) {
	none := [22]bool{}
	for _, c := range []struct {
		refuted, known int
		want           [22]bool
	}{
		{0, 0, only(all)},
		{1<<15 - 1, 0, none},
		{1, 0, these(3, 4, 5, 6, 8, 9, 10, 11, 12, 13, 14, 15, 16, 17, 18, 19, 20, 21)},
		{1 << 14, 0, these(1, 2, 3, 4, 7, 8, 9, 10, 11, 12, 13, 14, 15, 16, 17, 18, 19, 20)},
		{ten[1], 0, these(2, 7, 12, 13, 14, 15)},
		{ten[1] | 1, 0, these(12, 13, 14, 15)},
		{ten[1] | ten[4], 0, these(14)},
		{ten[1] | ten[4] | ten[0], 0, none},
		{1<<15 - 1 ^ 1<<7, 0, these(14)},
		{1<<15 - 1 ^ 1<<0 ^ 1<<14, 0, these(7, 21)},
		{0, 1, these(1, 7, 8, 9, 10, 11)},
		{0, 32, these(6, 11, 15, 18, 20, 21)},
		{0, 3, these(7)},
		{0, 48, these(21)},
		{1, 1, these(8, 9, 10, 11)},
		{1, 2, these(12, 13, 14, 15)},
		{1, 4, these(3, 8, 12, 16, 17, 18)},
		{1, 3, none},
		{2, 3, these(7)},
		{ten[1], 2, these(2, 7, 12, 13, 14, 15)},
		{ten[1], 1, these(7)},
		{0, 7, none},
		{0, 63, none},
		{0, -1, none},
		{0, 64, only(all)},
		{0, 65, these(1, 7, 8, 9, 10, 11)},
		{0, math.MinInt, only(all)},
		{0, math.MinInt | 6, these(12)},
	} {
		is(t, call("Alive", of(c.refuted), c.known), hypo.Alive(of(c.refuted), c.known), c.want)
	}
}

// P23.1, of all sets of pairs, and who is known.
func TestP1Alive(t *testing.T) {
	by := whole()
	eachBank(func(refuted int, b api.Bank) {
		for _, known := range []int{0, refuted % 64, oneOf(refuted), set(who[refuted%22]...)} {
			var want [22]bool
			for place, some := range who {
				want[place] = by[place]&refuted == 0 && among(gyros(known), some)
			}
			is(t, call("Alive", b, known), hypo.Alive(b, known), want)
		}
	})
}

// oneOf is a set of one gyro, with bits beside it that say nothing.
func oneOf(n int) int { return 1<<(n%6) | others[n%len(others)] }

// P23.1, of all sets that may be known, whatever other bits.
func TestP1AliveOfAllKnown(t *testing.T) {
	by := whole()
	for _, refuted := range []int{0, 1, 1 << 14, 1 << 7, ten[0], ten[5], 1<<15 - 1, 0b101_0101_0101_0101, 0b011_0000_0000_0110} {
		for known := range 64 {
			var want [22]bool
			for place, some := range who {
				want[place] = by[place]&refuted == 0 && among(gyros(known), some)
			}
			for _, other := range others {
				is(t, call("Alive", of(refuted), known|other), hypo.Alive(of(refuted), known|other), want)
			}
		}
	}
}

// P23.1: what is counted says nothing, only what has refuted.
func TestP1AliveOfAnyCount(t *testing.T) {
	for _, refuted := range []int{0, 1, 1 << 14, ten[1], 0b10_0100_1001_0010} {
		b := of(refuted)
		want := hypo.Alive(b, 0)
		for n, count := range []int64{1, -1, 40000, 100000, math.MaxInt64, math.MinInt64} {
			for pair := range b.Count {
				b.Count[pair] = count - int64(n*pair)
			}
			is(t, call("Alive", b), hypo.Alive(b, 0), want)
			is(t, call("Steps", b), hypo.Steps(b, 0), len(alives(want)))
		}
	}
}

// R4: the answer is the same each time.
func TestP1AliveAgain(t *testing.T) {
	b := of(0b100_0010_0000_1000)
	want := hypo.Alive(b, 0)
	for range 200 {
		is(t, call("Alive", b), hypo.Alive(b, 0), want)
	}
}

// The chapter's example: of a gyro all of whose ten tests have refuted it is sure that it is bad.
func TestExample(t *testing.T) {
	list(t, call("the pairs without 1"), hypo.Tell(0, 2), []int{1, 2, 3, 4, 9, 10, 11, 12, 13, 14})
	for gyro, refuted := range ten {
		alive := hypo.Alive(of(refuted), 0)
		is(t, call("Excluded", gyro), hypo.Excluded(alive), 1<<gyro)
		is(t, call("Ambiguous", gyro), hypo.Ambiguous(alive), false)
		is(t, call("Text", gyro), hypo.Text(alive), string(rune('0'+gyro)))
		is(t, call("Steps", gyro), hypo.Steps(of(refuted), 0), 6)
	}
}

// Of a gyro that drifts its own tests refute: it is excluded.
func TestOfReadings(t *testing.T) {
	for gyro := range api.Gyros {
		var r api.Read
		for i := range r.There {
			r.There[i] = i < api.Gyros
		}
		r.Value[gyro] = 2000
		b := bank.Update(bank.New(), config.Usual(), r)
		is(t, call("Excluded", gyro), hypo.Excluded(hypo.Alive(b, 0)), 1<<gyro)
		is(t, call("Text", gyro), hypo.Text(hypo.Alive(b, 0)), subset.Text(1<<gyro))
	}
}

// P23.2: one is enough.
func TestP2Any(t *testing.T) {
	is(t, call("Any of none"), hypo.Any(these()), false)
	for place := range who {
		is(t, call("Any", place), hypo.Any(these(place)), true)
		is(t, call("Any of all but", place), hypo.Any(only(all&^(1<<place))), true)
	}
	for _, alive := range lives() {
		is(t, call("Any", alive), hypo.Any(alive), len(alives(alive)) > 0)
	}
}

// P23.3 and P23.4: who is excluded, and whether that is all, by hand.
func TestP3ExcludedAndAmbiguousByHand(t *testing.T) {
	for _, c := range []struct {
		alive     [22]bool
		excluded  int
		ambiguous bool
	}{
		{these(), 0, false},
		{these(0), 0, false},
		{these(0, 1), 0, false},
		{these(0, 21), 0, false},
		{only(all), 0, false},
		{only(all - 1), 0, true},
		{these(1), 1, false},
		{these(6), 32, false},
		{these(7), 3, false},
		{these(21), 48, false},
		{these(1, 7), 1, false},
		{these(1, 7, 8, 9, 10, 11), 1, false},
		{these(7, 8), 1, true},
		{these(7, 8, 9, 10, 11), 1, true},
		{these(20, 21), 32, true},
		{these(2, 20, 21), 0, true},
		{these(6, 20, 21), 32, false},
		{these(1, 2), 0, true},
		{these(0, 1, 2), 0, false},
		{these(1, 12), 0, true},
		{these(7, 21), 0, true},
		{these(7, 12, 8), 0, true},
		{these(2, 7, 12), 2, false},
	} {
		is(t, call("Excluded", c.alive), hypo.Excluded(c.alive), c.excluded)
		is(t, call("Ambiguous", c.alive), hypo.Ambiguous(c.alive), c.ambiguous)
	}
}

// excluded are the gyros that no hypothesis leaves out.
func excluded(some [][]int) []int {
	var l []int
	for i := range 6 {
		left := slices.ContainsFunc(some, func(h []int) bool { return !slices.Contains(h, i) })
		if len(some) > 0 && !left {
			l = append(l, i)
		}
	}
	return l
}

// P23.3: the gyros in all that are alive.
func TestP3Excluded(t *testing.T) {
	for _, alive := range lives() {
		is(t, call("Excluded", alive), hypo.Excluded(alive), set(excluded(alives(alive))...))
	}
}

// P23.4: one is alive, and who is excluded is not one that is.
func TestP4Ambiguous(t *testing.T) {
	for _, alive := range lives() {
		some := alives(alive)
		out := excluded(some)
		just := func(h []int) bool { return slices.Equal(h, out) }
		is(t, call("Ambiguous", alive), hypo.Ambiguous(alive), len(some) > 0 && !slices.ContainsFunc(some, just))
	}
}

// P23.5: in how many a gyro is; in none, if there is no such gyro.
func TestP5Blamed(t *testing.T) {
	for i := range 6 {
		is(t, call("Blamed of none", i), hypo.Blamed(these(), i), 0)
		is(t, call("Blamed of all", i), hypo.Blamed(only(all), i), 6)
		is(t, call("Blamed alone", i), hypo.Blamed(these(1+i), i), 1)
		is(t, call("Blamed of nobody", i), hypo.Blamed(these(0), i), 0)
	}
	for i, want := range []int{2, 1, 2, 0, 1, 0} {
		alive := these(0, 1, 8, 12, 5)
		is(t, call("Blamed", alive, i), hypo.Blamed(alive, i), want)
	}
	for _, alive := range lives() {
		for i := range 6 {
			count := 0
			for _, h := range alives(alive) {
				if slices.Contains(h, i) {
					count++
				}
			}
			is(t, call("Blamed", alive, i), hypo.Blamed(alive, i), count)
		}
		for _, i := range noGyros {
			is(t, call("Blamed", alive, i), hypo.Blamed(alive, i), 0)
		}
	}
}

// P23.6 and P23.7: who may be at fault, and no fewer, by hand.
func TestP6PartsAndTextByHand(t *testing.T) {
	for _, c := range []struct {
		alive [22]bool
		parts []int
		text  string
	}{
		{these(), nil, "?"},
		{these(0), []int{0}, "-"},
		{only(all), []int{0}, "-"},
		{these(0, 9), []int{0}, "-"},
		{only(all - 1), []int{1, 2, 4, 8, 16, 32}, "0 or 1 or 2 or 3 or 4 or 5"},
		{these(2, 7, 12, 13, 14, 15), []int{2}, "1"},
		{these(7), []int{3}, "0+1"},
		{these(7, 12), []int{3, 6}, "0+1 or 1+2"},
		{these(1, 7, 12), []int{1, 6}, "0 or 1+2"},
		{these(6, 7), []int{32, 3}, "5 or 0+1"},
		{these(11, 12), []int{33, 6}, "0+5 or 1+2"},
		{these(7, 21), []int{3, 48}, "0+1 or 4+5"},
		{these(7, 2, 21, 5), []int{2, 16}, "1 or 4"},
		{these(9, 10, 11, 16), []int{9, 17, 33, 12}, "0+3 or 0+4 or 0+5 or 2+3"},
		{these(7, 8, 9, 10, 11, 12, 13, 14, 15, 16, 17, 18, 19, 20, 21), []int{3, 5, 9, 17, 33, 6, 10, 18, 34, 12, 20, 36, 24, 40, 48},
			"0+1 or 0+2 or 0+3 or 0+4 or 0+5 or 1+2 or 1+3 or 1+4 or 1+5 or 2+3 or 2+4 or 2+5 or 3+4 or 3+5 or 4+5"},
	} {
		list(t, call("Parts", c.alive), hypo.Parts(c.alive), c.parts)
		is(t, call("Text", c.alive), hypo.Text(c.alive), c.text)
	}
}

// least are those of which no other one is a part.
func least(some [][]int) [][]int {
	var l [][]int
	for n, h := range some {
		less := false
		for k, other := range some {
			less = less || k != n && among(other, h)
		}
		if !less {
			l = append(l, h)
		}
	}
	return l
}

// P23.6 and P23.7, of all lives.
func TestP6PartsAndText(t *testing.T) {
	for _, alive := range lives() {
		var parts []int
		text := ""
		for n, h := range least(alives(alive)) {
			parts = append(parts, set(h...))
			if n > 0 {
				text += " or "
			}
			text += subset.Text(set(h...))
		}
		if len(parts) == 0 {
			text = "?"
		}
		list(t, call("Parts", alive), hypo.Parts(alive), parts)
		is(t, call("Text", alive), hypo.Text(alive), text)
	}
}

// R3: lists that were answered are nobody else's.
func TestListsAreNew(t *testing.T) {
	alive := these(7, 12)
	for _, answer := range []func() []int{
		func() []int { return hypo.Parts(alive) },
		func() []int { return hypo.Tell(0, 3) },
	} {
		first := answer()
		want := slices.Clone(first)
		for n := range first {
			first[n] = -7
		}
		list(t, call("the answer"), answer(), want)
	}
}

// P23.8: the tests that tell two sets apart, by hand.
func TestP8TellByHand(t *testing.T) {
	for _, c := range []struct {
		a, b int
		want []int
	}{
		{0, 0, nil},
		{3, 3, nil},
		{0, 1, []int{5, 6, 7, 8, 9, 10, 11, 12, 13, 14}},
		{0, 3, []int{1, 2, 3, 4, 5, 6, 7, 8, 9, 10, 11, 12, 13, 14}},
		{0, 7, []int{0, 1, 2, 3, 4, 5, 6, 7, 8, 9, 10, 11, 12, 13, 14}},
		{0, 63, []int{0, 1, 2, 3, 4, 5, 6, 7, 8, 9, 10, 11, 12, 13, 14}},
		{1, 2, []int{1, 2, 3, 4, 5, 6, 7, 8}},
		{1, 3, []int{1, 2, 3, 4}},
		{16, 32, []int{3, 4, 7, 8, 10, 11, 12, 13}},
		{3, 5, []int{0, 1}},
		{3, 48, []int{0, 14}},
		{3, 7, []int{0}},
		{7, 63, nil},
		{7, 56, nil},
		{64, 0, nil},
		{64, 1, []int{5, 6, 7, 8, 9, 10, 11, 12, 13, 14}},
		{math.MinInt, 63, []int{0, 1, 2, 3, 4, 5, 6, 7, 8, 9, 10, 11, 12, 13, 14}},
		{-1, math.MaxInt, nil},
		{-1, 48, []int{14}},
	} {
		list(t, call("Tell", c.a, c.b), hypo.Tell(c.a, c.b), c.want)
		list(t, call("Tell", c.b, c.a), hypo.Tell(c.b, c.a), c.want)
	}
}

// P23.8, of all two sets, whatever other bits.
func TestP8Tell(t *testing.T) {
	for a := range 64 {
		for b := range 64 {
			var want []int
			for pair := range 15 {
				both := who[7+pair]
				if among(gyros(a), both) != among(gyros(b), both) {
					want = append(want, pair)
				}
			}
			for k, other := range others {
				far := others[(k+a+b)%len(others)]
				list(t, call("Tell", a|other, b|far), hypo.Tell(a|other, b|far), want)
			}
		}
	}
}

// P23.8 and P23.1: a pair tells two hypotheses apart if its test refutes just one of them.
func TestP8TellAsAlive(t *testing.T) {
	for pair := range 15 {
		alive := hypo.Alive(of(1<<pair), 0)
		for n, a := range who {
			for k, b := range who {
				tells := slices.Contains(hypo.Tell(set(a...), set(b...)), pair)
				is(t, call("Tell", a, b, pair), tells, alive[n] != alive[k])
			}
		}
	}
}

// P23.9: how many are alive.
func TestP9Steps(t *testing.T) {
	for _, c := range []struct{ refuted, known, want int }{
		{0, 0, 22}, {1, 0, 18}, {1<<15 - 1, 0, 0}, {ten[3], 0, 6}, {ten[3], 8, 6}, {ten[3], 4, 1},
		{0, 1, 6}, {0, 3, 1}, {0, 7, 0}, {0, 64, 22}, {0, -1, 0}, {0, math.MinInt, 22},
	} {
		is(t, call("Steps", c.refuted, c.known), hypo.Steps(of(c.refuted), c.known), c.want)
	}
	by := whole()
	eachBank(func(refuted int, b api.Bank) {
		for _, known := range []int{0, refuted % 64, oneOf(refuted)} {
			count := 0
			for place, some := range who {
				if by[place]&refuted == 0 && among(gyros(known), some) {
					count++
				}
			}
			is(t, call("Steps", b, known), hypo.Steps(b, known), count)
		}
	})
}

// P23.10: with one more pair that has refuted no more are alive, and nobody is let in again, unless none is alive.
func TestP10FewerAlive(t *testing.T) {
	eachBank(func(refuted int, b api.Bank) {
		known := []int{0, 0, 0, 1 << (refuted % 6), set(who[refuted%22]...)}[refuted%5]
		was := hypo.Alive(b, known)
		more := b
		more.Refuted[refuted*7%15] = true
		now := hypo.Alive(more, known)
		for place := range now {
			is(t, call("Alive anew", b, place), now[place] && !was[place], false)
		}
		if hypo.Any(now) {
			is(t, call("Excluded still", b, more), among(gyros(hypo.Excluded(was)), gyros(hypo.Excluded(now))), true)
		}
		is(t, call("Steps", b, more), hypo.Steps(more, known) <= hypo.Steps(b, known), true)
	})
}

// P23.11: as long as the pair of all that are bad has not refuted nobody else is excluded.
func TestP11NobodyElse(t *testing.T) {
	for pair := range 15 {
		both := set(who[7+pair]...)
		eachBank(func(refuted int, b api.Bank) {
			b.Refuted[pair] = false
			known := []int{both, 0, set(who[7+pair][0]), set(who[7+pair][1])}[refuted%4]
			if refuted%3 != 0 {
				return
			}
			alive := hypo.Alive(b, known)
			is(t, call("Alive", b, known, pair), alive[7+pair], true)
			is(t, call("Excluded", b, known, pair), subset.Within(hypo.Excluded(alive), both), true)
			if known == both {
				is(t, call("Excluded", b, known, pair), hypo.Excluded(alive), both)
			}
		})
	}
}

// P23.12: all that are alive have one of Parts within; if that is the only one, it is excluded, and else it is not known who.
func TestP12PartsWithin(t *testing.T) {
	for _, alive := range lives() {
		parts := hypo.Parts(alive)
		for _, h := range alives(alive) {
			in := func(part int) bool { return among(gyros(part), h) }
			is(t, call("Parts within", alive, h), slices.ContainsFunc(parts, in), true)
		}
		if len(parts) == 1 {
			is(t, call("Excluded", alive), hypo.Excluded(alive), parts[0])
		}
		is(t, call("Ambiguous", alive), hypo.Ambiguous(alive), len(parts) > 1)
	}
}

// P23.13: each two hypotheses are told apart by some pair.
func TestP13NoTwoAlike(t *testing.T) {
	for n, a := range who {
		for k, b := range who {
			is(t, call("Tell", a, b), len(hypo.Tell(set(a...), set(b...))) > 0, n != k)
		}
	}
}
