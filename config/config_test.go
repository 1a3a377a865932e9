package config_test

import (
	"fmt"
	"math"
	"reflect"
	"regexp"
	"slices"
	"strconv"
	"strings"
	"testing"

	"teetotum/api"
	"teetotum/config"
	"teetotum/geom"
)

// asked is a call, written out only where it is told.
type asked struct {
	name string
	args []any
}

func call(name string, args ...any) asked { return asked{name, args} }

func (a asked) String() string { return a.name + " of " + fmt.Sprintf("%+v", a.args) }

// is fails if got is not want.
func is[T comparable](t *testing.T, what asked, got, want T) {
	t.Helper()
	if got != want {
		t.Fatalf("%s: %+v, want %+v", what, got, want)
	}
}

// are fails if got has not just want's words, in order.
func are(t *testing.T, what asked, got, want []string) {
	t.Helper()
	if !slices.Equal(got, want) {
		t.Fatalf("%s: %q, want %q", what, got, want)
	}
}

// usual is the chapter's usual configuration, written out.
var usual = api.Config{
	Axes:  [6]api.Vec{{10, 0, 5}, {5, 9, 5}, {-5, 9, 6}, {-10, 1, 5}, {-5, -9, 5}, {6, -9, 5}},
	Eps:   3,
	Rate:  4000,
	Rail:  100000,
	Limit: 40000,
	Ceil:  100000,
	Miss:  3,
	Clean: 4,
	Alt:   api.Air{Eps: [3]int64{5, 5, 30}, Biased: [3]bool{true, true, false}, Bias: 200, Change: 1, Move: 20, Most: 60000},
	Speed: api.Air{Eps: [3]int64{4, 4, 6}, Biased: [3]bool{false, false, true}, Bias: 80, Change: 2, Move: 15, Most: 1000},
}

// usualText is what it prints.
const usualText = `axis 10 0 5
axis 5 9 5
axis -5 9 6
axis -10 1 5
axis -5 -9 5
axis 6 -9 5
gyro 3 4000 100000
test 40000 100000 3 4
alt 5 5 30 1 1 0 200 1 20 60000
speed 4 4 6 0 0 1 80 2 15 1000
`

// least has all numbers as low as they may be, most as high.
var (
	least = api.Config{
		Axes: [6]api.Vec{{1, 0, 0}, {0, 1, 0}, {0, 0, 1}, {1, 1, 1}, {1, 2, 3}, {1, 3, 2}},
		Rate: 1, Rail: 1, Limit: 1, Ceil: 1, Miss: 1, Clean: 1,
		Alt: api.Air{Most: 1}, Speed: api.Air{Most: 1},
	}
	most = api.Config{
		Axes:  [6]api.Vec{{30, 0, 0}, {0, 30, 0}, {0, 0, -30}, {30, 30, 30}, {30, -30, 29}, {-30, 10, 20}},
		Eps:   1 << 20,
		Rate:  1 << 20,
		Rail:  1 << 27,
		Limit: 1 << 40,
		Ceil:  1 << 50,
		Miss:  1000,
		Clean: 1000,
		Alt:   mostAir,
		Speed: mostAir,
	}
	mostAir = api.Air{
		Eps:    [3]int64{1 << 20, 1 << 20, 1 << 20},
		Biased: [3]bool{true, true, true},
		Bias:   1 << 20,
		Change: 1 << 20,
		Move:   1 << 20,
		Most:   1 << 24,
	}
)

const leastText = `axis 1 0 0
axis 0 1 0
axis 0 0 1
axis 1 1 1
axis 1 2 3
axis 1 3 2
gyro 0 1 1
test 1 1 1 1
alt 0 0 0 0 0 0 0 0 0 1
speed 0 0 0 0 0 0 0 0 0 1
`

const mostText = `axis 30 0 0
axis 0 30 0
axis 0 0 -30
axis 30 30 30
axis 30 -30 29
axis -30 10 20
gyro 1048576 1048576 134217728
test 1099511627776 1125899906842624 1000 1000
alt 1048576 1048576 1048576 1 1 1 1048576 1048576 1048576 16777216
speed 1048576 1048576 1048576 1 1 1 1048576 1048576 1048576 16777216
`

// number is one of a configuration's numbers: its word, from where to where it may be in usual, and how it is written there.
type number struct {
	word      string
	low, high int64
	put       func(c *api.Config, n int64)
}

func numbers() []number {
	l := []number{
		{"eps", 0, 1 << 20, func(c *api.Config, n int64) { c.Eps = n }},
		{"rate", 1, 1 << 20, func(c *api.Config, n int64) { c.Rate = n }},
		{"rail", 1, 1 << 27, func(c *api.Config, n int64) { c.Rail = n }},
		{"limit", 1, 100000, func(c *api.Config, n int64) { c.Limit = n }},
		{"ceil", 40000, 1 << 50, func(c *api.Config, n int64) { c.Ceil = n }},
		{"miss", 1, 1000, func(c *api.Config, n int64) { c.Miss = int(n) }},
		{"clean", 1, 1000, func(c *api.Config, n int64) { c.Clean = int(n) }},
	}
	for _, a := range airNumbers() {
		l = append(l,
			number{"alt", a.low, a.high, func(c *api.Config, n int64) { a.put(&c.Alt, n) }},
			number{"speed", a.low, a.high, func(c *api.Config, n int64) { a.put(&c.Speed, n) }})
	}
	return l
}

// alone are the numbers of the chapter's words.
func alone() []number { return numbers()[:7] }

// airNumber is one of the numbers of a quantity of the air.
type airNumber struct {
	low, high int64
	put       func(a *api.Air, n int64)
}

func airNumbers() []airNumber {
	return []airNumber{
		{0, 1 << 20, func(a *api.Air, n int64) { a.Eps[0] = n }},
		{0, 1 << 20, func(a *api.Air, n int64) { a.Eps[1] = n }},
		{0, 1 << 20, func(a *api.Air, n int64) { a.Eps[2] = n }},
		{0, 1 << 20, func(a *api.Air, n int64) { a.Bias = n }},
		{0, 1 << 20, func(a *api.Air, n int64) { a.Change = n }},
		{0, 1 << 20, func(a *api.Air, n int64) { a.Move = n }},
		{1, 1 << 24, func(a *api.Air, n int64) { a.Most = n }},
	}
}

// edges are numbers at what may be, from low to high, next to it and far from it.
func edges(low, high int64) []int64 {
	return []int64{
		low, low + 1, (low + high) / 2, high - 1, high,
		low - 1, high + 1, -1, -low - 1, 1<<32 + low, 1<<62 + high, math.MaxInt64, math.MinInt64, math.MinInt64 + 1,
	}
}

// some are configurations that are right, each unlike all others.
func some() []api.Config {
	l := []api.Config{usual, least, most}
	for _, c := range []api.Config{usual, least, most} {
		for _, n := range numbers() {
			for _, at := range []int64{n.low, n.low + 1, n.high} {
				d := c
				n.put(&d, at)
				l = append(l, d)
			}
		}
		for i := range 3 {
			d, e := c, c
			d.Alt.Biased[i] = !d.Alt.Biased[i]
			e.Speed.Biased[i] = !e.Speed.Biased[i]
			l = append(l, d, e)
		}
		for i := range 6 {
			d := c
			d.Axes[i] = api.Vec{-d.Axes[i][0], -d.Axes[i][1], -d.Axes[i][2]}
			l = append(l, d)
		}
	}
	var unlike []api.Config
	for _, c := range l {
		if right(c) == api.OK && !slices.Contains(unlike, c) {
			unlike = append(unlike, c)
		}
	}
	return unlike
}

// wrong are configurations that are not right, and why.
func wrong() map[api.Config]api.Errno {
	m := map[api.Config]api.Errno{}
	for _, n := range numbers() {
		for _, at := range []int64{n.low - 1, n.high + 1} {
			c := usual
			n.put(&c, at)
			m[c] = api.ErrArg
		}
	}
	c := usual
	c.Axes[5][2] = 31
	m[c] = api.ErrArg
	c.Axes[1] = c.Axes[0]
	m[c] = api.ErrArg
	c.Axes[5][2] = 30
	m[c] = api.ErrFlat
	c.Eps = -1
	m[c] = api.ErrFlat
	m[api.Config{}] = api.ErrFlat
	return m
}

// right is what Right asks, in the chapter's words.
func right(c api.Config) api.Errno {
	if err := geom.Right(c.Axes); err != api.OK {
		return err
	}
	for _, not := range []bool{
		c.Eps < 0, c.Eps > 1<<20,
		c.Rate < 1, c.Rate > 1<<20,
		c.Rail < 1, c.Rail > 1<<27,
		c.Limit < 1, c.Limit > 1<<40,
		c.Ceil < c.Limit, c.Ceil > 1<<50,
		c.Miss < 1, c.Miss > 1000,
		c.Clean < 1, c.Clean > 1000,
		!rightAir(c.Alt), !rightAir(c.Speed),
	} {
		if not {
			return api.ErrArg
		}
	}
	return api.OK
}

func rightAir(a api.Air) bool {
	for _, n := range []int64{a.Eps[0], a.Eps[1], a.Eps[2], a.Bias, a.Change, a.Move} {
		if n < 0 || n > 1<<20 {
			return false
		}
	}
	return a.Most >= 1 && a.Most <= 1<<24
}

// P13.1: each number, from its least to its greatest.
func TestP1RightAir(t *testing.T) {
	is(t, call("RightAir", usual.Alt), config.RightAir(usual.Alt), true)
	is(t, call("RightAir", mostAir), config.RightAir(mostAir), true)
	is(t, call("RightAir", api.Air{Most: 1}), config.RightAir(api.Air{Most: 1}), true)
	is(t, call("RightAir", api.Air{}), config.RightAir(api.Air{}), false)
	for _, a := range []api.Air{usual.Alt, usual.Speed, least.Alt, mostAir} {
		for _, n := range airNumbers() {
			for _, at := range edges(n.low, n.high) {
				b := a
				n.put(&b, at)
				is(t, call("RightAir", b), config.RightAir(b), at >= n.low && at <= n.high)
			}
		}
		for i := range 3 {
			a.Biased[i] = !a.Biased[i]
			is(t, call("RightAir", a), config.RightAir(a), true)
		}
	}
}

// P13.2: each number, from its least to its greatest, in three configurations.
func TestP2Right(t *testing.T) {
	is(t, call("Right", least), config.Right(least), api.OK)
	is(t, call("Right", most), config.Right(most), api.OK)
	for _, c := range []api.Config{usual, least, most} {
		for _, n := range numbers() {
			for _, at := range append(edges(n.low, n.high), c.Limit, c.Limit-1, c.Ceil, c.Ceil+1) {
				d := c
				n.put(&d, at)
				is(t, call("Right", d), config.Right(d), right(d))
			}
		}
	}
	for _, n := range numbers() {
		c := usual
		n.put(&c, n.low)
		is(t, call("Right", c), config.Right(c), api.OK)
		n.put(&c, n.high)
		is(t, call("Right", c), config.Right(c), api.OK)
		n.put(&c, n.low-1)
		is(t, call("Right", c), config.Right(c), api.ErrArg)
		n.put(&c, n.high+1)
		is(t, call("Right", c), config.Right(c), api.ErrArg)
	}
}

// P13.2: Limit up to 2^40, where Ceil allows it, and Ceil as low as Limit.
func TestP2RightLimits(t *testing.T) {
	for _, r := range []struct {
		limit, ceil int64
		want        api.Errno
	}{
		{1 << 40, 1 << 50, api.OK},
		{1 << 40, 1 << 40, api.OK},
		{1<<40 + 1, 1 << 50, api.ErrArg},
		{1<<40 + 1, 1<<40 + 1, api.ErrArg},
		{1 << 40, 1<<40 - 1, api.ErrArg},
		{1 << 40, 1<<50 + 1, api.ErrArg},
		{1, 1 << 50, api.OK},
		{1, 1, api.OK},
		{1, 0, api.ErrArg},
		{0, 0, api.ErrArg},
		{0, 1, api.ErrArg},
		{-5, -5, api.ErrArg},
		{5, math.MinInt64, api.ErrArg},
		{math.MinInt64, 5, api.ErrArg},
	} {
		c := usual
		c.Limit, c.Ceil = r.limit, r.ceil
		is(t, call("Right", c), config.Right(c), r.want)
	}
}

// P13.2: geom.Right's error is told first.
func TestP2RightAxes(t *testing.T) {
	flat, far := usual, usual
	flat.Axes[2] = flat.Axes[4]
	far.Axes[3][1] = -31
	is(t, call("Right", flat), config.Right(flat), api.ErrFlat)
	is(t, call("Right", far), config.Right(far), api.ErrArg)
	for _, n := range numbers() {
		c := flat
		n.put(&c, n.low-1)
		is(t, call("Right", c), config.Right(c), api.ErrFlat)
	}
	for c, err := range wrong() {
		is(t, call("Right", c), config.Right(c), err)
	}
}

// P13.3, P13.12: the usual one is the chapter's, and right.
func TestP3Usual(t *testing.T) {
	is(t, call("Usual"), config.Usual(), usual)
	is(t, call("Right of Usual"), config.Right(config.Usual()), api.OK)
}

// isPrint fails if Print does not answer these.
func isPrint(t *testing.T, c api.Config, text string, err api.Errno) {
	t.Helper()
	got, gotErr := config.Print(c)
	is(t, call("Print", c), got, text)
	is(t, call("error of Print", c), gotErr, err)
}

// P13.4, and the chapter's example: ten lines; nothing of what is not right.
func TestP4Print(t *testing.T) {
	isPrint(t, usual, usualText, api.OK)
	isPrint(t, least, leastText, api.OK)
	isPrint(t, most, mostText, api.OK)
	if !strings.HasPrefix(usualText, "axis 10 0 5\n") {
		t.Fatal("the chapter's first line is axis 10 0 5")
	}
	for c, err := range wrong() {
		isPrint(t, c, "", err)
	}
}

// P13.4: each number and each bias stands at its own place.
func TestP4PrintPlaces(t *testing.T) {
	c := usual
	c.Axes[3] = api.Vec{-29, 2, 17}
	c.Eps, c.Rate, c.Rail = 11, 12, 13
	c.Limit, c.Ceil, c.Miss, c.Clean = 14, 15, 16, 17
	c.Alt = api.Air{Eps: [3]int64{18, 19, 20}, Biased: [3]bool{false, true, false}, Bias: 21, Change: 22, Move: 23, Most: 24}
	c.Speed = api.Air{Eps: [3]int64{25, 26, 27}, Biased: [3]bool{true, false, false}, Bias: 28, Change: 29, Move: 30, Most: 31}
	isPrint(t, c, `axis 10 0 5
axis 5 9 5
axis -5 9 6
axis -29 2 17
axis -5 -9 5
axis 6 -9 5
gyro 11 12 13
test 14 15 16 17
alt 18 19 20 0 1 0 21 22 23 24
speed 25 26 27 1 0 0 28 29 30 31
`, api.OK)
}

// isParse fails if Parse does not answer these.
func isParse(t *testing.T, s string, c api.Config, at int, err api.Errno) {
	t.Helper()
	got, gotAt, gotErr := config.Parse(s)
	if got != c || gotAt != at || gotErr != err {
		t.Fatalf("Parse of %q: %+v, %d, %d, want %+v, %d, %d", s, got, gotAt, gotErr, c, at, err)
	}
}

// refused fails if Parse does not answer this error, at this line.
func refused(t *testing.T, s string, at int, err api.Errno) {
	t.Helper()
	isParse(t, s, api.Config{}, at, err)
}

// changed is usualText with another line in that one's place, its end not told.
func changed(at int, text string) string {
	lines := strings.SplitAfter(usualText, "\n")
	lines[at-1] = text + "\n"
	return strings.Join(lines, "")
}

// P13.5: what is printed is read.
func TestP5Parse(t *testing.T) {
	isParse(t, usualText, usual, 0, api.OK)
	isParse(t, leastText, least, 0, api.OK)
	isParse(t, mostText, most, 0, api.OK)
	c := usual
	c.Alt.Biased[2] = true
	isParse(t, changed(9, "alt 5 5 30 1 1 1 200 1 20 60000"), c, 0, api.OK)
}

// P13.5: a text of more than 4000 bytes is too long, whatever it is.
func TestP5ParseLong(t *testing.T) {
	refused(t, strings.Repeat("x", 4000), 1, api.ErrShort)
	refused(t, strings.Repeat("x", 4001), 0, api.ErrLong)
	refused(t, strings.Repeat("x", 3999)+"\n", 1, api.ErrForm)
	refused(t, strings.Repeat("x", 4000)+"\n", 0, api.ErrLong)
	refused(t, strings.Repeat("\n", 4000), 1, api.ErrForm)
	refused(t, strings.Repeat("\n", 4001), 0, api.ErrLong)
	refused(t, usualText+strings.Repeat("x", 4000-len(usualText)), 11, api.ErrShort)
	refused(t, usualText+strings.Repeat("x", 4001-len(usualText)), 0, api.ErrLong)
	refused(t, usualText+strings.Repeat("x", 3999-len(usualText))+"\n", 11, api.ErrForm)
	refused(t, strings.Repeat("\u20ac", 1333), 1, api.ErrShort)
	refused(t, strings.Repeat("\u20ac", 1334), 0, api.ErrLong)
	refused(t, "axis 1"+strings.Repeat("0", 3000)+" 0 5\n", 1, api.ErrForm)
	refused(t, "axis 0"+strings.Repeat("0", 3000)+" 0 5\n", 1, api.ErrForm)
	refused(t, "axis"+strings.Repeat(" 1", 1900)+"\n", 1, api.ErrForm)
	refused(t, strings.Repeat(" ", 3999)+"\n", 1, api.ErrForm)
	refused(t, strings.Repeat("1", 1<<20), 0, api.ErrLong)
}

// P13.5: a line that ends and is not of its form.
func TestP5ParseForm(t *testing.T) {
	for at, lines := range map[int][]string{
		1: {
			"", " ", "axis", "axis ", "axis 10", "axis 10 0", "axis 10 0 ", "axis 10 0 5 ", "axis 10 0 5 1", " axis 10 0 5",
			"axis  10 0 5", "axis 10  0 5", "axis 10\t0 5", "axis\t10 0 5", "axis 10 0 5\r", "axis 10 0 5\x00", "axis 10,0,5",
			"Axis 10 0 5", "axes 10 0 5", "axi 10 0 5", "axiss 10 0 5", "10 0 5", "gyro 10 0 5", "axis1 10 0 5", "ax-is 10 0 5",
			"axis 010 0 5", "axis 10 00 5", "axis 10 -0 5", "axis 10 +0 5", "axis +10 0 5", "axis 10 0 05", "axis 10 0 --5", "axis 10 0 5-",
			"axis 10 0 -", "axis - 0 5", "axis 10 - 5", "axis 10 0 -05", "axis 1-0 0 5", "axis 10 0 5.0", "axis 10 0 5e0", "axis 0x10 0 5",
			"axis 1_0 0 5", "axis ten 0 5", "axis 10 0 \u0665", "axis \uff11\uff10 0 5", "axis\u00a010 0 5", "axis 10 0 5\u0301",
			"axis 10 0 \xff5", "\xffaxis 10 0 5", "axis 10 \u2212 5", "axis 10 0 \u22125", "axis 10 0 5 #", "# axis 10 0 5",
			"axis 9223372036854775808 0 5", "axis -9223372036854775809 0 5", "axis 18446744073709551626 0 5",
			"axis 10 18446744073709551616 5", "axis 10 0 -18446744073709551611", "axis 340282368920938463463374607431768211466 0 5",
		},
		6:  {"gyro 6 -9 5", "axis 6 -9", "axis 6 - 9 5", "axis 6 \u22129 5"},
		7:  {"axis 3 4000 100000", "gyro 3 4000", "gyro 3 4000 100000 4", "gyro 03 4000 100000", "test 3 4000 100000", "test 40000 100000 3 4", ""},
		8:  {"test 40000 100000 3", "test 40000 100000 3 4 5", "gyro 40000 100000 3", "test 40000 100000 3 4 ", "alt 40000 100000 3 4"},
		9:  {"alt 5 5 30 2 1 0 200 1 20 60000", "alt 5 5 30 1 -1 0 200 1 20 60000", "alt 5 5 30 1 1 9 200 1 20 60000", "alt 5 5 30 1 1 -0 200 1 20 60000", "alt 5 5 30 1 1 00 200 1 20 60000", "alt 5 5 30 true true false 200 1 20 60000", "alt 5 5 30 1 1 200 1 20 60000", "alt 5 5 30 1 1 0 200 1 20", "alt 5 5 30 1 1 0 200 1 20 60000 1", "speed 5 5 30 1 1 0 200 1 20 60000", "alt 5 5 30 4294967297 1 0 200 1 20 60000", "alt 5 5 30 18446744073709551617 1 0 200 1 20 60000"},
		10: {"alt 4 4 6 0 0 1 80 2 15 1000", "speed 4 4 6 0 0 2 80 2 15 1000", "speed 4 4 6 0 0 1 80 2 15", "speed 4 4 6 0 0 1 80 2 15 1000 0", "Speed 4 4 6 0 0 1 80 2 15 1000", "speed 4 4 6 0 0 1 80 2 15 1000 "},
	} {
		for _, line := range lines {
			refused(t, changed(at, line), at, api.ErrForm)
		}
	}
}

// P13.5: the first line that ends and is not of its form is told, also behind the tenth; before that one is short.
func TestP5ParseFirst(t *testing.T) {
	lines := strings.SplitAfter(usualText, "\n")[:10]
	for a := range 10 {
		for b := a; b < 10; b++ {
			l := slices.Clone(lines)
			l[a], l[b] = "no line\n", "no line\n"
			refused(t, strings.Join(l, ""), a+1, api.ErrForm)
			refused(t, strings.Join(l[:b+1], ""), a+1, api.ErrForm)
			refused(t, strings.Join(l, "")+"more", a+1, api.ErrForm)
			refused(t, strings.Join(l, "")+"more\n", a+1, api.ErrForm)
		}
		l := slices.Clone(lines)
		l[a] = ""
		if a == 9 { // the nine that are left are of the form
			refused(t, strings.Join(l, ""), 10, api.ErrShort)
		} else { // of five axes' lines none is the one that is not there
			refused(t, strings.Join(l, ""), max(a+1, 6), api.ErrForm)
		}
	}
	refused(t, usualText+"\n", 11, api.ErrForm)
	refused(t, usualText+"more\n", 11, api.ErrForm)
	refused(t, usualText+lines[9], 11, api.ErrForm)
	refused(t, usualText+"more\nmore\n", 11, api.ErrForm)
	refused(t, usualText+"more\nmore", 11, api.ErrForm)
	refused(t, usualText+usualText, 11, api.ErrForm)
	refused(t, "\n"+usualText, 1, api.ErrForm)
}

// P13.5: there are not ten lines that end, or bytes behind them; how many end, and 1.
func TestP5ParseShort(t *testing.T) {
	refused(t, "", 1, api.ErrShort)
	lines := 0
	for at := range len(usualText) {
		refused(t, usualText[:at], lines+1, api.ErrShort)
		if usualText[at] == '\n' {
			lines++
		}
	}
	refused(t, usualText+" ", 11, api.ErrShort)
	refused(t, usualText+"\x00", 11, api.ErrShort)
	refused(t, usualText+"\xff", 11, api.ErrShort)
	refused(t, usualText+"axis 10 0 5", 11, api.ErrShort)
	refused(t, "no line", 1, api.ErrShort)
	refused(t, "axis 10 0 5\nno line", 2, api.ErrShort)
	// Whether it is right is not asked yet.
	refused(t, "axis 99 0 5\n", 2, api.ErrShort)
	refused(t, changed(7, "gyro 3 0 100000")+"x", 11, api.ErrShort)
}

// P13.5: of the form, but not right: at line 0.
func TestP5ParseRight(t *testing.T) {
	refused(t, changed(1, "axis 31 0 5"), 0, api.ErrArg)
	refused(t, changed(1, "axis 5 9 5"), 0, api.ErrFlat)
	refused(t, changed(1, "axis 9223372036854775807 0 5"), 0, api.ErrArg)
	refused(t, changed(1, "axis -9223372036854775808 0 5"), 0, api.ErrArg)
	refused(t, changed(1, "axis 0 0 0"), 0, api.ErrFlat)
	refused(t, changed(7, "gyro -1 4000 100000"), 0, api.ErrArg)
	refused(t, changed(7, "gyro 3 0 100000"), 0, api.ErrArg)
	refused(t, changed(7, "gyro 3 4000 134217729"), 0, api.ErrArg)
	refused(t, changed(8, "test 40000 39999 3 4"), 0, api.ErrArg)
	refused(t, changed(8, "test 40000 100000 0 4"), 0, api.ErrArg)
	refused(t, changed(8, "test 40000 100000 -9223372036854775808 4"), 0, api.ErrArg)
	refused(t, changed(8, "test 40000 100000 3 1001"), 0, api.ErrArg)
	refused(t, changed(9, "alt 5 5 -30 1 1 0 200 1 20 60000"), 0, api.ErrArg)
	refused(t, changed(9, "alt 5 5 30 1 1 0 200 1 20 0"), 0, api.ErrArg)
	refused(t, changed(10, "speed 4 4 6 0 0 1 80 2 15 16777217"), 0, api.ErrArg)
	refused(t, changed(10, "speed 4 4 6 0 0 1 80 2 1048577 1000"), 0, api.ErrArg)
}

// forms are what the lines are, told by expressions.
var forms = func() []*regexp.Regexp {
	n, bias := `( (0|-?[1-9][0-9]*))`, `( [01])`
	l := slices.Repeat([]string{"axis" + n + "{3}"}, 6)
	l = append(l, "gyro"+n+"{3}", "test"+n+"{4}", "alt"+n+"{3}"+bias+"{3}"+n+"{4}", "speed"+n+"{3}"+bias+"{3}"+n+"{4}")
	var all []*regexp.Regexp
	for _, form := range l {
		all = append(all, regexp.MustCompile("^"+form+"$"))
	}
	return all
}()

// parsed is what Parse asks, in the chapter's words.
func parsed(s string) (api.Config, int, api.Errno) {
	if len(s) > 4000 {
		return api.Config{}, 0, api.ErrLong
	}
	lines := strings.Split(s, "\n")
	ended, behind := lines[:len(lines)-1], lines[len(lines)-1]
	var n []int64
	for at, line := range ended {
		if at > 9 || !forms[at].MatchString(line) {
			return api.Config{}, at + 1, api.ErrForm
		}
		for _, word := range strings.Fields(line)[1:] {
			number, err := strconv.ParseInt(word, 10, 64)
			if err != nil {
				return api.Config{}, at + 1, api.ErrForm
			}
			n = append(n, number)
		}
	}
	if len(ended) < 10 || behind != "" {
		return api.Config{}, len(ended) + 1, api.ErrShort
	}
	air := func(n []int64) api.Air {
		return api.Air{Eps: [3]int64(n), Biased: [3]bool{n[3] == 1, n[4] == 1, n[5] == 1}, Bias: n[6], Change: n[7], Move: n[8], Most: n[9]}
	}
	c := api.Config{
		Axes: [6]api.Vec{api.Vec(n), api.Vec(n[3:]), api.Vec(n[6:]), api.Vec(n[9:]), api.Vec(n[12:]), api.Vec(n[15:])},
		Eps:  n[18], Rate: n[19], Rail: n[20],
		Limit: n[21], Ceil: n[22], Miss: int(n[23]), Clean: int(n[24]),
		Alt: air(n[25:]), Speed: air(n[35:]),
	}
	if err := right(c); err != api.OK {
		return api.Config{}, 0, err
	}
	return c, 0, api.OK
}

// asParsed fails if Parse does not answer what parsed does; what is parsed is printed so.
func asParsed(t *testing.T, s string) {
	t.Helper()
	c, at, err := parsed(s)
	isParse(t, s, c, at, err)
	if err == api.OK {
		isPrint(t, c, s, api.OK)
	}
}

// P13.5, P13.11: texts with any one byte more, less or in another's place.
func TestP5ParseChanged(t *testing.T) {
	var all []byte
	for b := range 256 {
		all = append(all, byte(b))
	}
	some := []byte("0129- \n\ra\xff")
	for s, others := range map[string][]byte{usualText: all, leastText: some, mostText: some} {
		for at := 0; at <= len(s); at++ {
			if at < len(s) {
				asParsed(t, s[:at]+s[at+1:])
			}
			for _, b := range others {
				asParsed(t, s[:at]+string([]byte{b})+s[at:])
				if at < len(s) {
					asParsed(t, s[:at]+string([]byte{b})+s[at+1:])
				}
			}
		}
	}
}

// P13.5, P13.11: texts with any number in each one's place.
func TestP5ParseNumbers(t *testing.T) {
	texts := []string{
		"", "0", "1", "2", "-1", "-0", "00", "007", "+1", "30", "31", "-30", "-31", "1000", "1001", "1048576", "1048577", "4294967297",
		"99999999999999999", "9223372036854775807", "9223372036854775808", "-9223372036854775808", "-9223372036854775809",
		"18446744073709551615", "18446744073709551616", "18446744073709551617", "-18446744073709551617", strings.Repeat("9", 100),
		"1.0", "1e3", "0x1", "1 2", "a", "-", "--1", "1-", "\u0661",
	}
	words := strings.FieldsFunc(usualText, func(r rune) bool { return r == ' ' || r == '\n' })
	behind := regexp.MustCompile("[ \n]").FindAllString(usualText, -1)
	for at := range words {
		for _, text := range texts {
			var s strings.Builder
			for i, word := range words {
				if i == at {
					word = text
				}
				s.WriteString(word + behind[i])
			}
			asParsed(t, s.String())
		}
	}
}

// P13.5: lines left out, told twice, and changed for each other.
func TestP5ParseLines(t *testing.T) {
	lines := strings.SplitAfter(usualText, "\n")[:10]
	for a := range 10 {
		for b := range 10 {
			l := slices.Clone(lines)
			l[a], l[b] = l[b], l[a]
			asParsed(t, strings.Join(l, ""))
			asParsed(t, strings.Join(slices.Insert(slices.Clone(lines), a, lines[b]), ""))
			l[a] = lines[b]
			asParsed(t, strings.Join(l, ""))
			asParsed(t, strings.Join(lines[min(a, b):max(a, b)], ""))
		}
	}
}

// P13.6: seven words; each list of them is new.
func TestP6Words(t *testing.T) {
	want := []string{"eps", "rate", "rail", "limit", "ceil", "miss", "clean"}
	words := config.Words()
	are(t, call("Words"), words, want)
	words[0], words[6] = "no", "word"
	are(t, call("Words"), config.Words(), want)
}

// none are words that are none of Words.
var none = []string{"", " ", "Eps", "EPS", "eps ", " eps", "ep", "epss", "axis", "axes", "alt", "speed", "gyro", "test", "bias", "eps,rate", "eps\x00", "\xff", "\u0435ps"}

// P13.7: each word's number; also of what is not right.
func TestP7Get(t *testing.T) {
	for word, want := range map[string]int64{"eps": 3, "rate": 4000, "rail": 100000, "limit": 40000, "ceil": 100000, "miss": 3, "clean": 4} {
		got, err := config.Get(usual, word)
		is(t, call("Get", word), got, want)
		is(t, call("error of Get", word), err, api.OK)
	}
	for _, n := range alone() {
		for _, at := range edges(n.low, n.high) {
			for _, c := range []api.Config{usual, {}} {
				n.put(&c, at)
				got, err := config.Get(c, n.word)
				is(t, call("Get", c, n.word), got, at)
				is(t, call("error of Get", c, n.word), err, api.OK)
			}
		}
	}
	for _, word := range none {
		for _, c := range []api.Config{usual, {}} {
			got, err := config.Get(c, word)
			is(t, call("Get", c, word), got, 0)
			is(t, call("error of Get", c, word), err, api.ErrNone)
		}
	}
}

// P13.8, P13.13: what is set is got, if it is right then; else all is as it was.
func TestP8Set(t *testing.T) {
	for _, c := range []api.Config{usual, least, most} {
		for _, n := range alone() {
			for _, at := range append(edges(n.low, n.high), c.Limit-1, c.Limit, c.Ceil, c.Ceil+1) {
				want := c
				n.put(&want, at)
				err := right(want)
				if err != api.OK {
					want = c
				}
				got, gotErr := config.Set(c, n.word, at)
				is(t, call("Set", c, n.word, at), got, want)
				is(t, call("error of Set", c, n.word, at), gotErr, err)
				if err == api.OK {
					back, _ := config.Get(got, n.word)
					is(t, call("Get of Set", c, n.word, at), back, at)
				}
			}
		}
	}
}

// P13.8: a word that is none is told first, then what is not right elsewhere; what is not right may be set right.
func TestP8SetErrors(t *testing.T) {
	for _, word := range none {
		for _, c := range []api.Config{usual, {}} {
			got, err := config.Set(c, word, 5)
			is(t, call("Set", c, word), got, c)
			is(t, call("error of Set", c, word), err, api.ErrNone)
		}
	}
	for c, want := range wrong() {
		if c.Eps < 0 || c.Eps > 1<<20 {
			continue
		}
		got, err := config.Set(c, "eps", 7)
		is(t, call("Set", c, "eps"), got, c)
		is(t, call("error of Set", c, "eps"), err, want)
	}
	c := usual
	c.Limit = 100001
	for _, r := range []struct {
		word string
		n    int64
		err  api.Errno
	}{
		{"limit", 100000, api.OK}, {"limit", 100001, api.ErrArg}, {"ceil", 100001, api.OK}, {"ceil", 100000, api.ErrArg}, {"eps", 3, api.ErrArg},
	} {
		want := c
		if r.err == api.OK && r.word == "limit" {
			want.Limit = r.n
		} else if r.err == api.OK {
			want.Ceil = r.n
		}
		got, err := config.Set(c, r.word, r.n)
		is(t, call("Set", r.word, r.n), got, want)
		is(t, call("error of Set", r.word, r.n), err, r.err)
	}
}

// differ is what is not the same in both, in the chapter's words.
func differ(a, b api.Config) []string {
	var l []string
	for i := range 6 {
		if a.Axes[i] != b.Axes[i] {
			l = append(l, fmt.Sprintf("axis %d", i))
		}
	}
	for _, r := range []struct {
		word string
		not  bool
	}{
		{"eps", a.Eps != b.Eps}, {"rate", a.Rate != b.Rate}, {"rail", a.Rail != b.Rail},
		{"limit", a.Limit != b.Limit}, {"ceil", a.Ceil != b.Ceil},
		{"miss", a.Miss != b.Miss}, {"clean", a.Clean != b.Clean},
		{"alt", a.Alt != b.Alt}, {"speed", a.Speed != b.Speed},
	} {
		if r.not {
			l = append(l, r.word)
		}
	}
	return l
}

// P13.9: one number, or one bias, that is not the same.
func TestP9DifferOne(t *testing.T) {
	is(t, call("length of Differ of the same"), len(config.Differ(usual, usual)), 0)
	is(t, call("length of Differ of what is not right"), len(config.Differ(api.Config{}, api.Config{})), 0)
	for i := range 6 {
		for k := range 3 {
			c := usual
			c.Axes[i][k]++
			are(t, call("Differ", c), config.Differ(usual, c), []string{"axis " + strconv.Itoa(i)})
		}
	}
	for _, n := range numbers() {
		for _, at := range []int64{math.MinInt64, -7, math.MaxInt64} {
			c := usual
			n.put(&c, at)
			are(t, call("Differ", c), config.Differ(usual, c), []string{n.word})
			are(t, call("Differ, other way", c), config.Differ(c, usual), []string{n.word})
		}
	}
	for i := range 3 {
		c, d := usual, usual
		c.Alt.Biased[i] = !c.Alt.Biased[i]
		d.Speed.Biased[i] = !d.Speed.Biased[i]
		are(t, call("Differ", c), config.Differ(usual, c), []string{"alt"})
		are(t, call("Differ", d), config.Differ(usual, d), []string{"speed"})
	}
}

// P13.9, P13.14: all that are not the same, in order; nothing just if both are the same.
func TestP9Differ(t *testing.T) {
	are(t, call("Differ of least and most"), config.Differ(least, most), []string{
		"axis 0", "axis 1", "axis 2", "axis 3", "axis 4", "axis 5",
		"eps", "rate", "rail", "limit", "ceil", "miss", "clean", "alt", "speed",
	})
	all := append(some(), api.Config{})
	for _, a := range all {
		for _, b := range all {
			l := config.Differ(a, b)
			are(t, call("Differ", a, b), l, differ(a, b))
			is(t, call("whether nothing differs", a, b), len(l) == 0, a == b)
		}
	}
}

// allWords are all that Merge knows.
var allWords = []string{"axes", "eps", "rate", "rail", "limit", "ceil", "miss", "clean", "alt", "speed"}

// merged is a with b's of each word.
func merged(a, b api.Config, words []string) api.Config {
	for _, word := range words {
		switch word {
		case "axes":
			a.Axes = b.Axes
		case "eps":
			a.Eps = b.Eps
		case "rate":
			a.Rate = b.Rate
		case "rail":
			a.Rail = b.Rail
		case "limit":
			a.Limit = b.Limit
		case "ceil":
			a.Ceil = b.Ceil
		case "miss":
			a.Miss = b.Miss
		case "clean":
			a.Clean = b.Clean
		case "alt":
			a.Alt = b.Alt
		case "speed":
			a.Speed = b.Speed
		}
	}
	return a
}

// isMerge fails if Merge does not answer these.
func isMerge(t *testing.T, a, b api.Config, words []string, want api.Config, err api.Errno) {
	t.Helper()
	got, gotErr := config.Merge(a, b, words...)
	is(t, call("Merge", a, b, words), got, want)
	is(t, call("error of Merge", a, b, words), gotErr, err)
}

// P13.10: each set of words, of configurations that are right, and of ones that are not.
func TestP10Merge(t *testing.T) {
	bad := most
	bad.Rate, bad.Ceil, bad.Alt.Most = 0, 5, -1
	flat := least
	flat.Axes[2] = flat.Axes[1]
	all := []api.Config{usual, least, most, bad, flat, {}}
	for bits := range 1 << len(allWords) {
		var words []string
		for i, word := range allWords {
			if bits>>i&1 == 1 {
				words = append(words, word)
			}
		}
		for _, a := range all {
			for _, b := range all {
				want := merged(a, b, words)
				err := right(want)
				if err != api.OK {
					want = a
				}
				isMerge(t, a, b, words, want, err)
			}
		}
	}
}

// P13.10: a word that is none is told first, wherever it stands; a word may be told again, and in any order.
func TestP10MergeWords(t *testing.T) {
	words := []string{"speed", "alt", "clean", "eps", "axes", "eps", "speed"}
	isMerge(t, usual, most, words, merged(usual, most, words), api.OK)
	are(t, call("words"), words, []string{"speed", "alt", "clean", "eps", "axes", "eps", "speed"})
	isMerge(t, usual, most, nil, usual, api.OK)
	isMerge(t, usual, api.Config{}, nil, usual, api.OK)
	isMerge(t, api.Config{}, usual, nil, api.Config{}, api.ErrFlat)
	isMerge(t, usual, most, []string{"limit"}, usual, api.ErrArg)
	isMerge(t, usual, most, []string{"limit", "ceil"}, merged(usual, most, []string{"limit", "ceil"}), api.OK)
	isMerge(t, usual, most, []string{"ceil", "limit"}, merged(usual, most, []string{"limit", "ceil"}), api.OK)
	for _, word := range none {
		if slices.Contains(allWords, word) {
			continue
		}
		isMerge(t, usual, most, []string{word}, usual, api.ErrNone)
		isMerge(t, usual, most, []string{"eps", word}, usual, api.ErrNone)
		isMerge(t, usual, most, []string{word, "eps"}, usual, api.ErrNone)
		isMerge(t, usual, api.Config{}, []string{"axes", "rate", word}, usual, api.ErrNone)
		isMerge(t, api.Config{}, usual, []string{word}, api.Config{}, api.ErrNone)
	}
	isMerge(t, usual, most, []string{"axis 0"}, usual, api.ErrNone)
	isMerge(t, usual, most, slices.Repeat([]string{"eps"}, 100000), merged(usual, most, []string{"eps"}), api.OK)
}

// P13.11: what is printed is parsed, each unlike all others.
func TestP11PrintAndParse(t *testing.T) {
	seen := map[string]api.Config{}
	for _, c := range some() {
		s, err := config.Print(c)
		is(t, call("error of Print", c), err, api.OK)
		isParse(t, s, c, 0, api.OK)
		if other, ok := seen[s]; ok {
			t.Fatalf("%+v and %+v print the same", c, other)
		}
		seen[s] = c
		asParsed(t, s)
	}
}

// P13.13: beside what is set all is as it was.
func TestP13SetAlone(t *testing.T) {
	for _, c := range some() {
		for _, n := range alone() {
			low := n.low
			if n.word == "ceil" {
				low = c.Limit
			}
			got, err := config.Set(c, n.word, low)
			is(t, call("error of Set", c, n.word, low), err, api.OK)
			for _, other := range alone() {
				was, _ := config.Get(c, other.word)
				if other.word == n.word {
					was = low
				}
				is(t, call("Get of Set", c, n.word, other.word), first(config.Get(got, other.word)), was)
			}
			is(t, call("axes of Set", c, n.word), got.Axes, c.Axes)
			is(t, call("altitude of Set", c, n.word), got.Alt, c.Alt)
			is(t, call("speed of Set", c, n.word), got.Speed, c.Speed)
		}
	}
}

func first(n int64, _ api.Errno) int64 { return n }

// P13.14: with all words merged it is the other one, if that is right.
func TestP14MergeAll(t *testing.T) {
	all := some()
	for _, a := range append(all, api.Config{}) {
		for _, b := range all {
			isMerge(t, a, b, allWords, b, api.OK)
		}
		for b, err := range wrong() {
			isMerge(t, a, b, allWords, a, err)
		}
	}
}

// The configuration has no part that these tests do not know.
func TestFields(t *testing.T) {
	is(t, call("parts of Config"), reflect.TypeOf(api.Config{}).NumField(), 10)
	is(t, call("parts of Air"), reflect.TypeOf(api.Air{}).NumField(), 6)
}
