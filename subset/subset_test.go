package subset_test

import (
	"fmt"
	"math"
	"slices"
	"testing"

	"teetotum/api"
	"teetotum/geom"
	"teetotum/subset"
)

// asked is a call, written out only where it is told.
type asked struct {
	name string
	args []any
}

func call(name string, args ...any) asked { return asked{name, args} }

func (a asked) String() string { return a.name + " of " + fmt.Sprint(a.args...) }

// is fails if got is not want.
func is[T comparable](t *testing.T, what asked, got, want T) {
	t.Helper()
	if got != want {
		t.Fatalf("%s: %v, want %v", what, got, want)
	}
}

// are fails if got has not just want's numbers, in order.
func are(t *testing.T, what asked, got, want []int) {
	t.Helper()
	if !slices.Equal(got, want) {
		t.Fatalf("%s: %v, want %v", what, got, want)
	}
}

// others are numbers whose bits 0 to 5 are 0: of others than these a set's number may have any.
var others = []int{0, 64, 128, 192, 1 << 31, 1 << 32, 1 << 62, math.MaxInt - 63, -64, -128, -1 << 32, math.MinInt, math.MinInt + 64}

// hypos are the chapter's, written out.
var hypos = [22]int{
	0,
	1, 2, 4, 8, 16, 32,
	3, 5, 9, 17, 33,
	6, 10, 18, 34,
	12, 20, 36,
	24, 40,
	48,
}

// gyros are numbers of gyros, and numbers that there is no gyro of, ones among them that a shift may take for one.
func gyros() []int {
	l := []int{31, 32, 33, 63, 64, 65, 128, 256, 1 << 32, 1<<32 + 1, math.MaxInt, math.MinInt, math.MinInt + 1}
	for i := -8; i < 14; i++ {
		l = append(l, i)
	}
	return l
}

// eachSet calls f with all sets, and with each the numbers that are it.
func eachSet(f func(set, number int)) {
	for set := range 64 {
		for _, other := range others {
			f(set, set|other)
		}
	}
}

// in is whether the gyro i is in the set, from 0 to 63.
func in(set, i int) bool {
	for range i {
		set /= 2
	}
	return set%2 == 1
}

// members are the gyros in the set, from 0 to 63.
func members(set int) []int {
	var l []int
	for i := range 6 {
		if in(set, i) {
			l = append(l, i)
		}
	}
	return l
}

// text is the members of the set, from 0 to 63, as the chapter writes them.
func text(set int) string {
	s := ""
	for _, i := range members(set) {
		if s != "" {
			s += "+"
		}
		s += fmt.Sprint(i)
	}
	if s == "" {
		return "-"
	}
	return s
}

// of are all sets of n members, rising.
func of(n int) []int {
	var l []int
	for set := range 64 {
		if len(members(set)) == n {
			l = append(l, set)
		}
	}
	return l
}

// texts are those of all sets, and the sets.
func texts() map[string]int {
	m := map[string]int{}
	for set := range 64 {
		m[text(set)] = set
	}
	return m
}

// P11.1: whether a gyro is in it; of what is no gyro: not.
func TestP1Has(t *testing.T) {
	is(t, call("Has", 10, 1), subset.Has(10, 1), true)
	is(t, call("Has", 10, 2), subset.Has(10, 2), false)
	eachSet(func(set, number int) {
		for _, i := range gyros() {
			want := i >= 0 && i < 6 && in(set, i)
			is(t, call("Has", number, i), subset.Has(number, i), want)
		}
	})
}

// P11.1: With and Without change that gyro alone, and nothing where there is none.
func TestP1WithAndWithout(t *testing.T) {
	is(t, call("With", 10, 0), subset.With(10, 0), 11)
	is(t, call("With", 10, 1), subset.With(10, 1), 10)
	is(t, call("With", 10, 5), subset.With(10, 5), 42)
	is(t, call("With", 10, 6), subset.With(10, 6), 10)
	is(t, call("With", 10, -1), subset.With(10, -1), 10)
	is(t, call("Without", 10, 0), subset.Without(10, 0), 10)
	is(t, call("Without", 10, 1), subset.Without(10, 1), 8)
	is(t, call("Without", 42, 5), subset.Without(42, 5), 10)
	is(t, call("Without", 74, 6), subset.Without(74, 6), 74)
	is(t, call("Without", 10, -1), subset.Without(10, -1), 10)
	eachSet(func(set, number int) {
		for _, i := range gyros() {
			with, without := subset.With(number, i), subset.Without(number, i)
			if i < 0 || i > 5 {
				is(t, call("With", number, i), with, number)
				is(t, call("Without", number, i), without, number)
				continue
			}
			for k := range 6 {
				is(t, call("Has of With", number, i, k), subset.Has(with, k), in(set, k) || k == i)
				is(t, call("Has of Without", number, i, k), subset.Has(without, k), in(set, k) && k != i)
			}
			is(t, call("other bits of With", number, i), with&^63, number&^63)
			is(t, call("other bits of Without", number, i), without&^63, number&^63)
		}
	})
}

// P11.2: how many, and which; other bits say nothing.
func TestP2CountAndMembers(t *testing.T) {
	for _, r := range []struct {
		set  int
		want []int
	}{
		{0, nil},
		{1, []int{0}},
		{10, []int{1, 3}},
		{32, []int{5}},
		{63, []int{0, 1, 2, 3, 4, 5}},
		{64, nil},
		{-1, []int{0, 1, 2, 3, 4, 5}},
		{math.MinInt, nil},
		{math.MaxInt, []int{0, 1, 2, 3, 4, 5}},
	} {
		is(t, call("Count", r.set), subset.Count(r.set), len(r.want))
		are(t, call("Members", r.set), subset.Members(r.set), r.want)
	}
	eachSet(func(set, number int) {
		is(t, call("Count", number), subset.Count(number), len(members(set)))
		are(t, call("Members", number), subset.Members(number), members(set))
	})
}

// P11.3: none, each one alone, and the pairs, in order.
func TestP3Hypos(t *testing.T) {
	is(t, call("Hypos"), subset.Hypos(), hypos)
	for place, pair := range geom.Pairs() {
		are(t, call("Members of Hypos", 7+place), subset.Members(subset.Hypos()[7+place]), pair[:])
	}
}

// P11.4, and the chapter's example: of just that number; another one that is the same set has none.
func TestP4Place(t *testing.T) {
	is(t, call("Place", 3), subset.Place(3), 7)
	is(t, call("Place", 0), subset.Place(0), 0)
	is(t, call("Place", 32), subset.Place(32), 6)
	is(t, call("Place", 48), subset.Place(48), 21)
	is(t, call("Place", 7), subset.Place(7), -1)
	is(t, call("Place", 64), subset.Place(64), -1)
	is(t, call("Place", -61), subset.Place(-61), -1)
	for number := -300; number < 300; number++ {
		is(t, call("Place", number), subset.Place(number), slices.Index(hypos[:], number))
	}
	eachSet(func(set, number int) {
		is(t, call("Place", number), subset.Place(number), slices.Index(hypos[:], number))
	})
}

// P11.5, and the chapter's example: a digit each, with a + between; - of none.
func TestP5Text(t *testing.T) {
	for _, r := range []struct {
		set  int
		want string
	}{
		{10, "1+3"},
		{0, "-"},
		{1, "0"},
		{32, "5"},
		{63, "0+1+2+3+4+5"},
		{64, "-"},
		{74, "1+3"},
		{-1, "0+1+2+3+4+5"},
		{-64, "-"},
		{math.MinInt, "-"},
	} {
		is(t, call("Text", r.set), subset.Text(r.set), r.want)
	}
	eachSet(func(set, number int) {
		is(t, call("Text", number), subset.Text(number), text(set))
	})
}

// isParse fails if Parse does not take s just where it is a set's text.
func isParse(t *testing.T, sets map[string]int, s string) {
	t.Helper()
	want, err := 0, api.ErrForm
	if set, ok := sets[s]; ok {
		want, err = set, api.OK
	}
	got, gotErr := subset.Parse(s)
	if got != want || gotErr != err {
		t.Fatalf("Parse of %q: %d, %d, want %d, %d", s, got, gotErr, want, err)
	}
}

// P11.6: texts that are no set's, of all kinds.
func TestP6ParseEdges(t *testing.T) {
	sets := texts()
	for _, s := range []string{
		"", "-", "--", "-0", "0-", "-1", "+", "++", "+0", "0+", "0++1", "+0+1", "0+1+",
		"6", "7", "9", "0+6", "5+6", "6+0", "00", "01", "0+01", "10", "1+10", "0+10",
		"0+0", "1+1", "3+1", "5+4", "1+0+2", "0+1+2+3+4+5+0", "0+1+2+3+4+5+6",
		" 1", "1 ", "1 + 3", "1+3\n", "\n", "\x00", "0\x00", "1,3", "1-3", "1.3", "0x1", "-+1", "1+-", "-+-",
		"\xff", "1\xff", "\xff1", "1+\xff3", "\ufffd", "1\ufffd",
		"\u0130", "\u0131+\u0133", "\U00010030", "\u0661", "\u0660+\u0661", "\uff11", "\uff0b", "1\uff0b3", "\u2212", "1\u0301",
		"1+3", "0+1+2+3+4+5", "0", "5",
	} {
		isParse(t, sets, s)
	}
	got, err := subset.Parse("1+3")
	is(t, call("Parse", "1+3"), got, 10)
	is(t, call("error of Parse", "1+3"), err, api.OK)
	got, err = subset.Parse("3+1")
	is(t, call("Parse", "3+1"), got, 0)
	is(t, call("error of Parse", "3+1"), err, api.ErrForm)
}

// P11.6: all texts of at most six of some runes.
func TestP6ParseShort(t *testing.T) {
	sets := texts()
	runes := []rune("0156+- ")
	var put func(s string, left int)
	put = func(s string, left int) {
		isParse(t, sets, s)
		if left == 0 {
			return
		}
		for _, r := range runes {
			put(s+string(r), left-1)
		}
	}
	put("", 6)
}

// P11.6: each set's text, with any one byte more, less or in another's place.
func TestP6ParseChanged(t *testing.T) {
	sets := texts()
	for s := range sets {
		isParse(t, sets, s)
		for at := 0; at <= len(s); at++ {
			if at < len(s) {
				isParse(t, sets, s[:at]+s[at+1:])
			}
			for b := range 256 {
				isParse(t, sets, s[:at]+string([]byte{byte(b)})+s[at:])
				if at < len(s) {
					isParse(t, sets, s[:at]+string([]byte{byte(b)})+s[at+1:])
				}
			}
		}
	}
}

// P11.6: a long text is none.
func TestP6ParseLong(t *testing.T) {
	sets := texts()
	long := make([]byte, 1<<20)
	for at := range long {
		long[at] = "0+"[at%2]
	}
	isParse(t, sets, string(long))
	isParse(t, sets, "0+1+2+3+4+5"+string(long))
}

// P11.7: the least set above it of as many members; 0 and false of the greatest.
func TestP7Next(t *testing.T) {
	for _, r := range []struct {
		set, want int
		ok        bool
	}{
		{0, 0, false},
		{1, 2, true},
		{3, 5, true},
		{6, 9, true},
		{10, 12, true},
		{12, 17, true},
		{16, 32, true},
		{32, 0, false},
		{48, 0, false},
		{60, 0, false},
		{31, 47, true},
		{62, 0, false},
		{63, 0, false},
		{64, 0, false},
		{67, 5, true},
		{-1, 0, false},
		{math.MaxInt, 0, false},
		{math.MinInt, 0, false},
		{math.MinInt + 1, 2, true},
	} {
		got, ok := subset.Next(r.set)
		is(t, call("Next", r.set), got, r.want)
		is(t, call("whether Next", r.set), ok, r.ok)
	}
	eachSet(func(set, number int) {
		got, ok := subset.Next(number)
		alike := of(len(members(set)))
		place := slices.Index(alike, set)
		is(t, call("whether Next", number), ok, place+1 < len(alike))
		if ok {
			is(t, call("Next", number), got, alike[place+1])
		} else {
			is(t, call("Next", number), got, 0)
		}
	})
}

// P11.8: all sets of n members, rising; none below 0 and above 6.
func TestP8Of(t *testing.T) {
	for _, r := range []struct {
		n    int
		want []int
	}{
		{-1, nil},
		{0, []int{0}},
		{1, []int{1, 2, 4, 8, 16, 32}},
		{2, []int{3, 5, 6, 9, 10, 12, 17, 18, 20, 24, 33, 34, 36, 40, 48}},
		{5, []int{31, 47, 55, 59, 61, 62}},
		{6, []int{63}},
		{7, nil},
		{64, nil},
		{math.MaxInt, nil},
		{math.MinInt, nil},
	} {
		are(t, call("Of", r.n), subset.Of(r.n), r.want)
	}
	for n := -3; n < 10; n++ {
		are(t, call("Of", n), subset.Of(n), of(n))
	}
	for n, want := range []int{1, 6, 15, 20, 15, 6, 1} {
		is(t, call("length of Of", n), len(subset.Of(n)), want)
	}
}

// P11.9: the place among those of as many members.
func TestP9Number(t *testing.T) {
	for _, r := range []struct{ set, want int }{
		{0, 0}, {1, 0}, {32, 5}, {3, 0}, {6, 2}, {10, 4}, {48, 14}, {56, 19}, {62, 5}, {63, 0},
		{64, 0}, {74, 4}, {-1, 0}, {-2, 5}, {math.MaxInt, 0}, {math.MinInt, 0}, {math.MinInt + 32, 5},
	} {
		is(t, call("Number", r.set), subset.Number(r.set), r.want)
	}
	eachSet(func(set, number int) {
		is(t, call("Number", number), subset.Number(number), slices.Index(of(len(members(set))), set))
	})
}

// within is whether all members of a are in b, both from 0 to 63.
func within(a, b int) bool {
	for _, i := range members(a) {
		if !in(b, i) {
			return false
		}
	}
	return true
}

// P11.10: whether all of a are in b, whatever other bits either has.
func TestP10Within(t *testing.T) {
	for _, r := range []struct {
		a, b int
		want bool
	}{
		{0, 0, true}, {0, 63, true}, {63, 0, false}, {2, 10, true}, {10, 2, false}, {10, 10, true}, {5, 10, false},
		{64, 0, true}, {0, 64, true}, {65, 1, true}, {1, 64, false}, {-1, 63, true}, {63, -1, true}, {math.MinInt, 0, true},
	} {
		is(t, call("Within", r.a, r.b), subset.Within(r.a, r.b), r.want)
	}
	for a := range 64 {
		for b := range 64 {
			want := within(a, b)
			for k, other := range others {
				far := others[(k+a+b)%len(others)]
				is(t, call("Within", a|other, b|far), subset.Within(a|other, b|far), want)
			}
		}
	}
}

// P11.10: all sets that are within it, rising.
func TestP10Part(t *testing.T) {
	are(t, call("Part", 0), subset.Part(0), []int{0})
	are(t, call("Part", 10), subset.Part(10), []int{0, 2, 8, 10})
	are(t, call("Part", 35), subset.Part(35), []int{0, 1, 2, 3, 32, 33, 34, 35})
	are(t, call("Part", 64), subset.Part(64), []int{0})
	are(t, call("Part", math.MinInt), subset.Part(math.MinInt), []int{0})
	is(t, call("length of Part", -1), len(subset.Part(-1)), 64)
	eachSet(func(set, number int) {
		var want []int
		for part := range 64 {
			if within(part, set) {
				want = append(want, part)
			}
		}
		are(t, call("Part", number), subset.Part(number), want)
	})
}

// P11.11: what is written is read, and what is read is written so.
func TestP11WrittenAndRead(t *testing.T) {
	eachSet(func(set, number int) {
		got, err := subset.Parse(subset.Text(number))
		is(t, call("Parse of Text", number), got, set)
		is(t, call("error of Parse of Text", number), err, api.OK)
	})
	for s := range texts() {
		set, err := subset.Parse(s)
		is(t, call("error of Parse", s), err, api.OK)
		is(t, call("Text of Parse", s), subset.Text(set), s)
	}
}

// P11.12: each of Hypos has its Place, and at most two members; no other set has so few.
func TestP12HyposAndPlace(t *testing.T) {
	for place, hypo := range subset.Hypos() {
		is(t, call("Place", hypo), subset.Place(hypo), place)
		is(t, call("Count at most two", hypo), subset.Count(hypo) <= 2, true)
	}
	for set := range 64 {
		is(t, call("Place", set), subset.Place(set) >= 0, subset.Count(set) <= 2)
	}
}

// P11.13: from the first on Next goes through all of as many members; a set of n has 2 to the power n parts.
func TestP13All(t *testing.T) {
	for n := range 7 {
		want := subset.Of(n)
		got := want[:1:1]
		for len(got) < 65 {
			next, ok := subset.Next(got[len(got)-1])
			if !ok {
				break
			}
			got = append(got, next)
		}
		are(t, call("Next from the first of Of on", n), got, want)
		for place, set := range want {
			is(t, call("Number", set), subset.Number(set), place)
		}
	}
	eachSet(func(set, number int) {
		is(t, call("length of Part", number), len(subset.Part(number)), 1<<subset.Count(number))
	})
}

// What is answered is the caller's own.
func TestOwn(t *testing.T) {
	hypo, which, some, parts := subset.Hypos(), subset.Members(63), subset.Of(2), subset.Part(10)
	hypo[0], which[0], some[0], parts[0] = 99, 99, 99, 99
	_ = append(some[:1], 98)
	is(t, call("Hypos"), subset.Hypos(), hypos)
	are(t, call("Members", 63), subset.Members(63), []int{0, 1, 2, 3, 4, 5})
	are(t, call("Of", 2), subset.Of(2), of(2))
	are(t, call("Part", 10), subset.Part(10), []int{0, 2, 8, 10})
}
