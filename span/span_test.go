package span_test

import (
	"fmt"
	"math"
	"math/big"
	"testing"

	"teetotum/api"
	"teetotum/span"
)

const (
	greatest int64 = math.MaxInt64
	least    int64 = math.MinInt64
)

// none is the empty span, as it is answered.
var none = api.Span{Lo: 1, Hi: 0}

// all is the span of all numbers.
var all = api.Span{Lo: least, Hi: greatest}

func of(lo, hi int64) api.Span { return api.Span{Lo: lo, Hi: hi} }

// small are all spans whose ends are near 0, empty ones too.
func small() []api.Span {
	return between([]int64{-5, -4, -3, -2, -1, 0, 1, 2, 3, 4, 5})
}

// edges are spans whose ends are near those of the room, near where squares leave it, and near 0.
func edges() []api.Span {
	return between([]int64{least, least + 1, -1 << 62, -3037000500, -3037000499, -7, -1, 0, 1, 8, 3037000499, 3037000500, 1 << 62, greatest - 1, greatest})
}

func between(ends []int64) []api.Span {
	var l []api.Span
	for _, lo := range ends {
		for _, hi := range ends {
			l = append(l, of(lo, hi))
		}
	}
	return l
}

func each() []api.Span { return append(small(), edges()...) }

// eachPair calls f with all pairs of small spans, and of edges.
func eachPair(f func(a, b api.Span)) {
	for _, l := range [][]api.Span{small(), edges()} {
		for _, a := range l {
			for _, b := range l {
				f(a, b)
			}
		}
	}
}

// numbers are those that small spans are asked about, and the edges.
func numbers() []int64 {
	l := []int64{least, least + 1, -1 << 62, -3037000500, -3037000499, 3037000499, 3037000500, 1 << 62, greatest - 1, greatest}
	for x := int64(-12); x <= 12; x++ {
		l = append(l, x)
	}
	return l
}

// members are numbers of a: its ends, those beside them, its middle, and those near 0.
func members(a api.Span) []int64 {
	var l []int64
	add := func(x int64) {
		if a.Lo <= x && x <= a.Hi {
			l = append(l, x)
		}
	}
	for x := int64(-5); x <= 5; x++ {
		add(x)
	}
	if a.Lo < a.Hi {
		add(a.Lo + 1)
		add(a.Hi - 1)
		add(a.Lo/2 + a.Hi/2)
	}
	add(a.Lo)
	add(a.Hi)
	return l
}

func bigOf(x int64) *big.Int { return big.NewInt(x) }

func sum(a, b int64) *big.Int { return new(big.Int).Add(bigOf(a), bigOf(b)) }

func difference(a, b int64) *big.Int { return new(big.Int).Sub(bigOf(a), bigOf(b)) }

func product(a, b int64) *big.Int { return new(big.Int).Mul(bigOf(a), bigOf(b)) }

// held is x, or the end of the room that it is beyond.
func held(x *big.Int) int64 {
	switch {
	case x.IsInt64():
		return x.Int64()
	case x.Sign() < 0:
		return least
	default:
		return greatest
	}
}

// tidy is the span from lo to hi, as it is answered.
func tidy(lo, hi int64) api.Span {
	if hi < lo {
		return none
	}
	return of(lo, hi)
}

// asked is a call, written out only where it is told.
type asked struct {
	name string
	args []any
}

func call(name string, args ...any) asked { return asked{name, args} }

func (a asked) String() string { return fmt.Sprint(a.name, " of ", a.args) }

// is fails if got is not want.
func is[T comparable](t *testing.T, what asked, got, want T) {
	t.Helper()
	if got != want {
		t.Fatalf("%s: %v, want %v", what, got, want)
	}
}

// P4.1: a span is empty if its Hi is below its Lo.
func TestP1Empty(t *testing.T) {
	for _, r := range []struct {
		a    api.Span
		want bool
	}{
		{of(1, 5), false}, {of(3, 3), false}, {of(1, 0), true}, {of(5, -5), true}, {of(0, 0), false},
		{all, false}, {of(greatest, least), true}, {of(least, least), false}, {of(greatest, greatest), false},
		{of(greatest, greatest-1), true}, {of(least+1, least), true},
	} {
		is(t, call("Empty", r.a), span.Empty(r.a), r.want)
	}
	for _, a := range each() {
		is(t, call("Empty", a), span.Empty(a), a.Hi < a.Lo)
	}
}

// P4.1: a span has what is not below its Lo and not above its Hi.
func TestP1Has(t *testing.T) {
	for _, r := range []struct {
		a    api.Span
		x    int64
		want bool
	}{
		{of(1, 5), 0, false}, {of(1, 5), 1, true}, {of(1, 5), 3, true}, {of(1, 5), 5, true}, {of(1, 5), 6, false},
		{of(5, 1), 3, false}, {of(5, 1), 5, false}, {of(5, 1), 1, false}, {none, 0, false}, {none, 1, false},
		{all, least, true}, {all, greatest, true}, {of(least, least), least, true}, {of(least, least), greatest, false},
	} {
		is(t, call("Has", r.a, r.x), span.Has(r.a, r.x), r.want)
	}
	for _, a := range each() {
		for _, x := range numbers() {
			is(t, call("Has", a, x), span.Has(a, x), !(x < a.Lo) && !(a.Hi < x))
		}
	}
}

// P4.2, and the chapter's example.
func TestP2Meet(t *testing.T) {
	for _, r := range []struct{ a, b, want api.Span }{
		{of(1, 5), of(4, 9), of(4, 5)}, {of(1, 5), of(5, 9), of(5, 5)}, {of(1, 5), of(6, 9), none},
		{of(1, 9), of(3, 4), of(3, 4)}, {all, of(-2, 7), of(-2, 7)}, {of(5, 1), all, none}, {all, of(5, 1), none},
		{of(least, least), of(greatest, greatest), none}, {of(least, 0), of(0, greatest), of(0, 0)},
		{of(5, 1), of(9, 2), none},
	} {
		is(t, call("Meet", r.a, r.b), span.Meet(r.a, r.b), r.want)
	}
}

// P4.2, P4.13: what both have, and no more, is met; nothing in common is answered as the span from 1 to 0.
func TestP13Meet(t *testing.T) {
	eachPair(func(a, b api.Span) {
		got := span.Meet(a, b)
		if got.Hi < got.Lo {
			is(t, call("Meet", a, b), got, none)
		}
		for _, x := range append(append(members(a), members(b)...), members(got)...) {
			is(t, call("Has", got, x), span.Has(got, x), span.Has(a, x) && span.Has(b, x))
		}
	})
}

// P4.3: the least span that has both; of an empty one the other, as it is.
func TestP3Hull(t *testing.T) {
	for _, r := range []struct{ a, b, want api.Span }{
		{of(1, 2), of(5, 9), of(1, 9)}, {of(5, 9), of(1, 2), of(1, 9)}, {of(1, 9), of(3, 4), of(1, 9)},
		{of(-3, -3), of(4, 4), of(-3, 4)}, {of(least, least), of(greatest, greatest), all},
		{none, of(3, 4), of(3, 4)}, {of(3, 4), none, of(3, 4)}, {of(9, -9), of(3, 4), of(3, 4)}, {of(3, 4), of(9, -9), of(3, 4)},
		{none, none, none}, {none, of(7, 2), of(7, 2)},
	} {
		is(t, call("Hull", r.a, r.b), span.Hull(r.a, r.b), r.want)
	}
}

// P4.3, P4.13: a hull has both, and its ends are theirs.
func TestP13Hull(t *testing.T) {
	eachPair(func(a, b api.Span) {
		got := span.Hull(a, b)
		for _, x := range append(members(a), members(b)...) {
			is(t, call("Has", got, x), span.Has(got, x), true)
		}
		switch {
		case span.Empty(a):
			is(t, call("Hull", a, b), got, b)
		case span.Empty(b):
			is(t, call("Hull", a, b), got, a)
		default:
			is(t, call("Hull", a, b), got, of(min(a.Lo, b.Lo), max(a.Hi, b.Hi)))
		}
	})
}

// P4.4: sums, held at the ends of the room.
func TestP4Add(t *testing.T) {
	for _, r := range []struct{ a, b, want api.Span }{
		{of(1, 5), of(4, 9), of(5, 14)}, {of(-1, 5), of(-4, -2), of(-5, 3)}, {of(0, 0), of(3, 4), of(3, 4)},
		{none, of(4, 9), none}, {of(4, 9), none, none}, {of(5, 4), of(0, 9), none}, {of(0, 9), of(5, 4), none},
		{all, all, all}, {all, of(1, 1), of(least+1, greatest)}, {all, of(-1, -1), of(least, greatest-1)},
		{of(greatest, greatest), of(1, 1), of(greatest, greatest)}, {of(least, least), of(-1, 0), of(least, least)},
	} {
		is(t, call("Add", r.a, r.b), span.Add(r.a, r.b), r.want)
	}
	eachPair(func(a, b api.Span) {
		want := none
		if a.Lo <= a.Hi && b.Lo <= b.Hi {
			want = of(held(sum(a.Lo, b.Lo)), held(sum(a.Hi, b.Hi)))
		}
		is(t, call("Add", a, b), span.Add(a, b), want)
	})
}

// P4.4: differences, held at the ends of the room.
func TestP4Sub(t *testing.T) {
	for _, r := range []struct{ a, b, want api.Span }{
		{of(1, 5), of(4, 9), of(-8, 1)}, {of(4, 9), of(4, 9), of(-5, 5)}, {of(3, 3), of(0, 0), of(3, 3)},
		{none, of(4, 9), none}, {of(4, 9), none, none}, {of(5, 4), of(0, 9), none}, {of(0, 9), of(5, 4), none},
		{all, all, all}, {of(-5, -5), of(least, least), of(greatest-4, greatest-4)},
		{of(0, 0), of(least, least), of(greatest, greatest)}, {of(-2, -2), of(greatest, greatest), of(least, least)},
		{of(-1, -1), of(greatest, greatest), of(least, least)}, {of(0, 0), of(greatest, greatest), of(least+1, least+1)},
	} {
		is(t, call("Sub", r.a, r.b), span.Sub(r.a, r.b), r.want)
	}
	eachPair(func(a, b api.Span) {
		want := none
		if a.Lo <= a.Hi && b.Lo <= b.Hi {
			want = of(held(difference(a.Lo, b.Hi)), held(difference(a.Hi, b.Lo)))
		}
		is(t, call("Sub", a, b), span.Sub(a, b), want)
	})
}

// P4.4: opposites; that of the least number is the greatest.
func TestP4Neg(t *testing.T) {
	for _, r := range []struct{ a, want api.Span }{
		{of(1, 5), of(-5, -1)}, {of(-2, 7), of(-7, 2)}, {of(0, 0), of(0, 0)},
		{all, of(least+1, greatest)}, {of(least, least), of(greatest, greatest)}, {of(greatest, greatest), of(least+1, least+1)},
		{none, none}, {of(5, 3), none}, {of(least+1, least), none},
	} {
		is(t, call("Neg", r.a), span.Neg(r.a), r.want)
	}
	for _, a := range each() {
		want := none
		if a.Lo <= a.Hi {
			want = of(held(new(big.Int).Neg(bigOf(a.Hi))), held(new(big.Int).Neg(bigOf(a.Lo))))
		}
		is(t, call("Neg", a), span.Neg(a), want)
	}
}

// P4.5: products with one number, from the lesser to the greater one, held.
func TestP5Scale(t *testing.T) {
	for _, r := range []struct {
		a    api.Span
		k    int64
		want api.Span
	}{
		{of(1, 5), 3, of(3, 15)}, {of(1, 5), -3, of(-15, -3)}, {of(-2, 5), -1, of(-5, 2)}, {of(-2, 5), 0, of(0, 0)},
		{all, 1, all}, {all, -1, of(least+1, greatest)}, {all, 0, of(0, 0)}, {all, 2, all}, {all, -2, all},
		{of(least, least), -1, of(greatest, greatest)}, {of(1<<62, 1<<62), 2, of(greatest, greatest)}, {of(1<<62, 1<<62), -2, of(least, least)},
		{of(1, 1), least, of(least, least)}, {of(-1, 1), least, of(least, greatest)}, {none, 4, none}, {of(5, 3), -2, none}, {of(5, 3), 0, none},
	} {
		is(t, call("Scale", r.a, r.k), span.Scale(r.a, r.k), r.want)
	}
	for _, a := range each() {
		for _, k := range numbers() {
			want := none
			if a.Lo <= a.Hi {
				p, q := held(product(a.Lo, k)), held(product(a.Hi, k))
				want = of(min(p, q), max(p, q))
			}
			is(t, call("Scale", a, k), span.Scale(a, k), want)
		}
	}
}

// P4.6: an empty span, and one widened by less than 0, stays as it is.
func TestP6Widen(t *testing.T) {
	for _, r := range []struct {
		a    api.Span
		by   int64
		want api.Span
	}{
		{of(1, 5), 2, of(-1, 7)}, {of(1, 5), 0, of(1, 5)}, {of(1, 5), -1, of(1, 5)}, {of(1, 5), least, of(1, 5)},
		{none, 7, none}, {of(9, 2), 7, of(9, 2)}, {of(9, 2), -7, of(9, 2)},
		{of(0, 0), greatest, of(least+1, greatest)}, {of(-1, 0), greatest, all}, {of(-2, 1), greatest, all}, {all, 1, all},
	} {
		is(t, call("Widen", r.a, r.by), span.Widen(r.a, r.by), r.want)
	}
	for _, a := range each() {
		for _, by := range numbers() {
			want := a
			if a.Lo <= a.Hi && by >= 0 {
				want = of(held(difference(a.Lo, by)), held(sum(a.Hi, by)))
			}
			is(t, call("Widen", a, by), span.Widen(a, by), want)
		}
	}
}

// halfOf is by 2, rounded down.
func halfOf(x *big.Int) *big.Int { return new(big.Int).Rsh(x, 1) }

// P4.7, and the chapter's example: Lo and half of how far Hi is from it, rounded down.
func TestP7Mid(t *testing.T) {
	for _, r := range []struct {
		a    api.Span
		want int64
	}{
		{of(4, 5), 4}, {of(4, 6), 5}, {of(-5, -4), -5}, {of(-5, 5), 0}, {of(-5, 4), -1}, {of(7, 7), 7},
		{all, -1}, {of(least, least), least}, {of(greatest, greatest), greatest}, {of(greatest-1, greatest), greatest - 1}, {of(least, least+1), least},
	} {
		is(t, call("Mid", r.a), span.Mid(r.a), r.want)
	}
	for _, a := range each() {
		want := new(big.Int).Add(bigOf(a.Lo), halfOf(difference(a.Hi, a.Lo)))
		is(t, call("Mid", a), span.Mid(a), want.Int64())
	}
}

// P4.7, and the chapter's example: half of how far Hi is from Lo, rounded up, at most the greatest number.
func TestP7Half(t *testing.T) {
	for _, r := range []struct {
		a    api.Span
		want int64
	}{
		{of(4, 5), 1}, {of(4, 6), 1}, {of(4, 7), 2}, {of(7, 7), 0}, {of(-5, 5), 5}, {of(-5, 4), 5},
		{none, 0}, {of(5, 1), 0}, {of(greatest, least), 0},
		{all, greatest}, {of(least, greatest-1), greatest}, {of(least, greatest-2), greatest}, {of(least, greatest-3), greatest - 1},
		{of(least+1, greatest), greatest}, {of(0, greatest), 1 << 62}, {of(least, 0), 1 << 62},
	} {
		is(t, call("Half", r.a), span.Half(r.a), r.want)
	}
	for _, a := range each() {
		want := int64(0)
		if a.Lo <= a.Hi {
			want = held(halfOf(new(big.Int).Add(difference(a.Hi, a.Lo), bigOf(1))))
		}
		is(t, call("Half", a), span.Half(a), want)
	}
}

// P4.15: no number is farther from the middle than Half, and one is as far. Only in the span of all numbers this has no room.
func TestP15MidAndHalf(t *testing.T) {
	for _, a := range each() {
		if a == all {
			continue
		}
		mid, half := bigOf(span.Mid(a)), bigOf(span.Half(a))
		far := new(big.Int)
		for _, x := range members(a) {
			if d := new(big.Int).Abs(new(big.Int).Sub(bigOf(x), mid)); d.Cmp(far) > 0 {
				far = d
			}
		}
		is(t, call("Half", a), half.String(), far.String())
	}
}

// P4.8: the number of the span that is nearest; of an empty one the number itself.
func TestP8Clamp(t *testing.T) {
	for _, r := range []struct {
		a       api.Span
		x, want int64
	}{
		{of(1, 5), 0, 1}, {of(1, 5), 1, 1}, {of(1, 5), 3, 3}, {of(1, 5), 5, 5}, {of(1, 5), 6, 5}, {of(3, 3), 9, 3},
		{of(1, 5), least, 1}, {of(1, 5), greatest, 5}, {all, least, least}, {all, greatest, greatest},
		{none, 7, 7}, {of(5, 1), 3, 3}, {of(5, 1), 0, 0}, {of(5, 1), 9, 9},
	} {
		is(t, call("Clamp", r.a, r.x), span.Clamp(r.a, r.x), r.want)
	}
	for _, a := range each() {
		for _, x := range numbers() {
			want := x
			switch {
			case a.Hi < a.Lo:
			case x < a.Lo:
				want = a.Lo
			case x > a.Hi:
				want = a.Hi
			}
			is(t, call("Clamp", a, x), span.Clamp(a, x), want)
		}
	}
}

// heldEnds are the least and the greatest of these, each held.
func heldEnds(l ...*big.Int) api.Span {
	a := of(held(l[0]), held(l[0]))
	for _, x := range l {
		a.Lo, a.Hi = min(a.Lo, held(x)), max(a.Hi, held(x))
	}
	return a
}

// P4.9: from the least to the greatest of the products of the ends, held.
func TestP9Mul(t *testing.T) {
	for _, r := range []struct{ a, b, want api.Span }{
		{of(1, 5), of(4, 9), of(4, 45)}, {of(-1, 5), of(4, 9), of(-9, 45)}, {of(-3, 5), of(-7, 2), of(-35, 21)},
		{of(-5, -3), of(-7, -2), of(6, 35)}, {of(0, 0), all, of(0, 0)}, {of(2, 3), of(-7, -2), of(-21, -4)}, {of(-3, -2), of(4, 5), of(-15, -8)},
		{none, of(4, 9), none}, {of(4, 9), none, none}, {of(5, 4), of(0, 9), none}, {of(0, 9), of(5, 4), none},
		{all, all, all}, {of(least, least), of(-1, -1), of(greatest, greatest)}, {of(least, least), of(1, 1), of(least, least)},
		{of(1<<62, 1<<62), of(2, 2), of(greatest, greatest)}, {of(-1<<62, -1<<62), of(2, 2), of(least, least)}, {of(-1<<62, -1<<62), of(3, 3), of(least, least)},
		{of(3037000499, 3037000500), of(3037000499, 3037000500), of(9223372030926249001, greatest)},
	} {
		is(t, call("Mul", r.a, r.b), span.Mul(r.a, r.b), r.want)
	}
	eachPair(func(a, b api.Span) {
		want := none
		if a.Lo <= a.Hi && b.Lo <= b.Hi {
			want = heldEnds(product(a.Lo, b.Lo), product(a.Lo, b.Hi), product(a.Hi, b.Lo), product(a.Hi, b.Hi))
		}
		is(t, call("Mul", a, b), span.Mul(a, b), want)
	})
}

// P4.10: from the lesser to the greater square of both ends, held; from 0 on, if the span has 0.
func TestP10Square(t *testing.T) {
	for _, r := range []struct{ a, want api.Span }{
		{of(2, 5), of(4, 25)}, {of(-5, -2), of(4, 25)}, {of(-2, 5), of(0, 25)}, {of(-5, 2), of(0, 25)}, {of(0, 3), of(0, 9)}, {of(-3, 0), of(0, 9)},
		{of(0, 0), of(0, 0)}, {of(-1, 1), of(0, 1)}, {of(1, 1), of(1, 1)}, {none, none}, {of(5, 2), none}, {of(2, -5), none},
		{all, of(0, greatest)}, {of(least, least), of(greatest, greatest)}, {of(least, -2), of(4, greatest)},
		{of(3037000499, 3037000499), of(9223372030926249001, 9223372030926249001)}, {of(-3037000500, -3037000499), of(9223372030926249001, greatest)},
	} {
		is(t, call("Square", r.a), span.Square(r.a), r.want)
	}
	for _, a := range each() {
		want := none
		if a.Lo <= a.Hi {
			want = heldEnds(product(a.Lo, a.Lo), product(a.Hi, a.Hi))
		}
		if a.Lo <= 0 && 0 <= a.Hi {
			want.Lo = 0
		}
		is(t, call("Square", a), span.Square(a), want)
	}
}

// P4.11: what d is below 1 is answered with ErrArg, and the span's zero value.
func TestP11DivErrors(t *testing.T) {
	for _, d := range []int64{0, -1, -7, least} {
		for _, a := range []api.Span{of(1, 5), none, all} {
			got, err := span.Div(a, d)
			is(t, call("Div", a, d), got, api.Span{})
			is(t, call("Div", a, d), err, api.ErrArg)
		}
	}
}

// P4.11: the whole numbers that, times d, are in the span.
func TestP11Div(t *testing.T) {
	for _, r := range []struct {
		a    api.Span
		d    int64
		want api.Span
	}{
		{of(1, 9), 2, of(1, 4)}, {of(-9, -1), 2, of(-4, -1)}, {of(-9, 9), 4, of(-2, 2)}, {of(4, 8), 4, of(1, 2)}, {of(-8, -4), 4, of(-2, -1)},
		{of(1, 2), 3, none}, {of(-2, -1), 3, none}, {of(-2, 2), 3, of(0, 0)}, {of(4, 5), 3, none}, {none, 1, none}, {of(9, 1), 2, none}, {of(1, -1), 3, none},
		{all, 1, all}, {all, greatest, of(-1, 1)}, {of(least+2, greatest-1), greatest, of(0, 0)}, {all, 2, of(-1<<62, 1<<62-1)}, {of(3, 5), 1, of(3, 5)},
	} {
		got, err := span.Div(r.a, r.d)
		is(t, call("Div", r.a, r.d), err, api.OK)
		is(t, call("Div", r.a, r.d), got, r.want)
	}
	for _, a := range each() {
		for _, d := range numbers() {
			if d > 0 {
				holdDiv(t, a, d)
			}
		}
	}
}

// holdDiv fails if Div of a and d has a number too much, or one too few, or is empty and not the span from 1 to 0.
func holdDiv(t *testing.T, a api.Span, d int64) {
	t.Helper()
	got, err := span.Div(a, d)
	is(t, call("Div", a, d), err, api.OK)
	if got.Hi < got.Lo {
		is(t, call("Div", a, d), got, none)
	}
	for _, x := range append(append(members(got), numbers()...), got.Lo-1, got.Hi+1, a.Lo/d, a.Hi/d) {
		p := product(x, d)
		want := p.Cmp(bigOf(a.Lo)) >= 0 && p.Cmp(bigOf(a.Hi)) <= 0
		is(t, call("Div has", a, d, x), got.Lo <= x && x <= got.Hi, want)
	}
}

// P4.12: from Lo to Mid, and behind that up to Hi; one number, or none, is not split.
func TestP12Split(t *testing.T) {
	for _, r := range []struct{ a, first, second api.Span }{
		{of(1, 5), of(1, 3), of(4, 5)}, {of(1, 4), of(1, 2), of(3, 4)}, {of(1, 2), of(1, 1), of(2, 2)}, {of(-4, -3), of(-4, -4), of(-3, -3)},
		{of(3, 3), of(3, 3), none}, {of(0, 0), of(0, 0), none}, {none, none, none}, {of(5, 2), of(5, 2), none},
		{all, of(least, -1), of(0, greatest)}, {of(greatest, greatest), of(greatest, greatest), none}, {of(greatest-1, greatest), of(greatest-1, greatest-1), of(greatest, greatest)},
	} {
		first, second := span.Split(r.a)
		is(t, call("Split", r.a), first, r.first)
		is(t, call("Split", r.a), second, r.second)
	}
}

// P4.17: both parts of a split are the span, and do not meet.
func TestP17Split(t *testing.T) {
	for _, a := range each() {
		first, second := span.Split(a)
		is(t, call("Hull of Split", a), span.Hull(second, first), a)
		is(t, call("Meet of Split", a), span.Meet(first, second), none)
		if a.Lo < a.Hi {
			is(t, call("Split", a), first.Hi, span.Mid(a))
			is(t, call("Split", a), second.Lo, first.Hi+1)
		} else {
			is(t, call("Split", a), second, none)
		}
	}
}

// P4.12: 0 if one is empty, or they meet; else how far the nearer ends are apart, held.
func TestP12Gap(t *testing.T) {
	for _, r := range []struct {
		a, b api.Span
		want int64
	}{
		{of(1, 3), of(7, 9), 4}, {of(7, 9), of(1, 3), 4}, {of(1, 3), of(4, 9), 1}, {of(1, 3), of(3, 9), 0}, {of(1, 9), of(3, 4), 0},
		{none, of(7, 9), 0}, {of(7, 9), none, 0}, {of(5, 1), of(7, 9), 0}, {of(7, 9), of(5, 1), 0}, {none, none, 0},
		{of(least, least), of(greatest, greatest), greatest}, {of(greatest, greatest), of(least, least), greatest},
		{of(least, -1), of(greatest-1, greatest), greatest}, {of(least, -2), of(greatest-1, greatest), greatest}, {of(least, 0), of(greatest-1, greatest), greatest - 1},
		{of(least, least), of(0, 0), greatest}, {of(least, least), of(-1, 0), greatest}, {of(least, least), of(-2, 0), greatest - 1},
	} {
		is(t, call("Gap", r.a, r.b), span.Gap(r.a, r.b), r.want)
	}
	eachPair(func(a, b api.Span) {
		want := int64(0)
		switch {
		case span.Empty(a), span.Empty(b):
		case a.Hi < b.Lo:
			want = held(difference(b.Lo, a.Hi))
		case b.Hi < a.Lo:
			want = held(difference(a.Lo, b.Hi))
		}
		is(t, call("Gap", a, b), span.Gap(a, b), want)
	})
}

// P4.14: the sum of a number of each is in the sum, where it has room; likewise the difference.
func TestP14Sum(t *testing.T) {
	eachPair(func(a, b api.Span) {
		total, far := span.Add(a, b), span.Sub(a, b)
		for _, x := range members(a) {
			for _, y := range members(b) {
				if s := sum(x, y); s.IsInt64() {
					is(t, call("Add has", a, b, s), span.Has(total, s.Int64()), true)
				}
				if d := difference(x, y); d.IsInt64() {
					is(t, call("Sub has", a, b, d), span.Has(far, d.Int64()), true)
				}
			}
		}
	})
}

// P4.16: the product of a number of each is in the product, where it has room; likewise squares, and products with one number.
func TestP16Product(t *testing.T) {
	eachPair(func(a, b api.Span) {
		both, squares := span.Mul(a, b), span.Square(a)
		for _, x := range members(a) {
			if p := product(x, x); p.IsInt64() {
				is(t, call("Square has", a, p), span.Has(squares, p.Int64()), true)
			}
			for _, y := range members(b) {
				if p := product(x, y); p.IsInt64() {
					is(t, call("Mul has", a, b, p), span.Has(both, p.Int64()), true)
					is(t, call("Scale has", a, y, p), span.Has(span.Scale(a, y), p.Int64()), true)
				}
			}
		}
	})
}
