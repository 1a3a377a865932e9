package angle_test

import (
	"fmt"
	"math"
	"math/big"
	"slices"
	"strings"
	"testing"

	"teetotum/angle"
	"teetotum/api"
	"teetotum/bank"
	"teetotum/config"
	"teetotum/enclose"
	"teetotum/geom"
	"teetotum/hull"
	"teetotum/hypo"
)

const (
	most   int64 = math.MaxInt64
	lowest int64 = math.MinInt64
)

type axes = [6]api.Vec

// asked is a call, written out only where it is told.
type asked struct {
	name string
	args []any
}

func call(name string, args ...any) asked { return asked{name, args} }

func (a asked) String() string {
	var words []string
	for _, x := range a.args {
		words = append(words, fmt.Sprintf("%+v", x))
	}
	return a.name + " of " + strings.Join(words, ", ")
}

// is fails if got is not want.
func is[T comparable](t *testing.T, what asked, got, want T) {
	t.Helper()
	if got != want {
		t.Fatalf("%s: %+v, want %+v", what, got, want)
	}
}

// alike fails if got is not the angle that want is.
func alike(t *testing.T, what asked, got, want api.Angle) {
	t.Helper()
	if got.Base != want.Base || !slices.Equal(got.Ring, want.Ring) {
		t.Fatalf("%s: %+v, want %+v", what, got, want)
	}
}

// rewound is a box, and what was wrong.
type rewound struct {
	b   api.Box
	err api.Errno
}

func rewind(a api.Angle, c api.Config, alive [22]bool, n int) rewound {
	b, err := angle.Rewind(a, c, alive, n)
	return rewound{b, err}
}

// who are the gyros of each hypothesis, in order.
var who = [22][]int{
	{},
	{0}, {1}, {2}, {3}, {4}, {5},
	{0, 1}, {0, 2}, {0, 3}, {0, 4}, {0, 5},
	{1, 2}, {1, 3}, {1, 4}, {1, 5},
	{2, 3}, {2, 4}, {2, 5},
	{3, 4}, {3, 5},
	{4, 5},
}

// these has those hypotheses alive of just these gyros.
func these(some ...[]int) [22]bool {
	var alive [22]bool
	for place, gyros := range who {
		alive[place] = slices.ContainsFunc(some, func(h []int) bool { return slices.Equal(h, gyros) })
	}
	return alive
}

// only has those hypotheses alive whose places' bits are 1.
func only(bits int) [22]bool {
	var alive [22]bool
	for place := range alive {
		alive[place] = bits>>place&1 == 1
	}
	return alive
}

// places are those of all hypotheses, as bits.
const places = 1<<22 - 1

// all has all of them alive.
var all = only(places)

// lives are which ones may be alive: none, one, all, all but one, what tests leave, and any.
func lives() [][22]bool {
	l := [][22]bool{only(0), all}
	for place := range who {
		l = append(l, only(1<<place), only(places&^(1<<place)))
	}
	for n := 1; n < 1<<15; n += 997 {
		var b api.Bank
		for pair := range b.Refuted {
			b.Refuted[pair] = n>>pair&1 == 1
		}
		l = append(l, hypo.Alive(b, 0), hypo.Alive(b, 1<<(n%6)), only(n*n))
	}
	return l
}

// cone are geom's axes, written out.
var cone = axes{{10, 0, 5}, {5, 9, 5}, {-5, 9, 6}, {-10, 1, 5}, {-5, -9, 5}, {6, -9, 5}}

// double are three axes, each twice.
var double = axes{{1, 0, 0}, {0, 1, 0}, {0, 0, 1}, {1, 0, 0}, {0, 1, 0}, {0, 0, 1}}

// corners are axes with entries as great as they may be.
var corners = axes{{30, 0, 0}, {0, 30, 0}, {0, 0, 30}, {30, 30, 30}, {30, -30, 29}, {-30, 10, 20}}

// powers are axes 1, n, n n.
var powers = axes{{1, 0, 0}, {1, 1, 1}, {1, 2, 4}, {1, 3, 9}, {1, 4, 16}, {1, 5, 25}}

// far are axes with entries at the ends of the room.
var far = axes{{most, lowest, 1}, {1, most, 2}, {3, 1, lowest}, {lowest, lowest, 5}, {7, 11, 13}, {most, 1, 1}}

// mixed are axes whose entries are no greater than they may be, other ones of each seed.
func mixed(seed int64) axes {
	var a axes
	for i := range a {
		for k := range a[i] {
			at := seed + 7*int64(i) + 3*int64(k)
			a[i][k] = (at*at*(seed+11)+at*37+5)%61 - 30
		}
	}
	return a
}

// may are axes whose entries are no greater than they may be: of some three lie in one plane.
func may() []axes {
	l := []axes{{}, cone, double, corners, powers}
	for seed := range int64(4) {
		l = append(l, mixed(seed))
	}
	return l
}

// right are those of may that are right.
func right() []axes {
	return slices.DeleteFunc(may(), func(a axes) bool { return geom.Right(a) != api.OK })
}

// known is a configuration of which just axes, Eps and Rate are known.
func known(a axes, eps, rate int64) api.Config { return api.Config{Axes: a, Eps: eps, Rate: rate} }

// numbers are edges: 0, the ends of the program's own limits, the roots of the room, and its ends.
func numbers() []int64 {
	l := []int64{0, 1, 2, 3, 1 << 20, api.MaxRead, 1<<31 - 1, 1 << 32, 3037000500, 1 << 62, most - 1, most}
	for _, x := range l[1:] {
		l = append(l, -x)
	}
	return append(l, lowest)
}

func of(lo, hi int64) api.Span { return api.Span{Lo: lo, Hi: hi} }

// none is the empty span, as it is answered.
var none = of(1, 0)

// cube is the box from lo to hi in each axis.
func cube(lo, hi int64) api.Box { return api.Box{of(lo, hi), of(lo, hi), of(lo, hi)} }

// ends are boxes with ends of all kinds, other ones in each axis, also empty ones.
func ends() []api.Box {
	n := numbers()
	l := []api.Box{cube(0, 0), cube(1, 0), cube(5, 3), cube(lowest, most), {of(1, 3), none, of(4, 4)}}
	for i := range n {
		for j := range n {
			l = append(l, api.Box{of(n[i], n[j]), of(min(n[i], n[j]), max(n[i], n[j])), of(n[(3*i+j)%len(n)], most)})
		}
	}
	return l
}

// allThere are readings of every source.
func allThere(value [12]int64) api.Read {
	r := api.Read{Value: value}
	for i := range r.There {
		r.There[i] = true
	}
	return r
}

// there is r with just those readings There whose bits the set has.
func there(r api.Read, set int) api.Read {
	for i := range r.There {
		r.There[i] = set>>i&1 == 1
	}
	return r
}

// reading is what the axes read of a rate, each off by its own.
func reading(a axes, rate api.Vec, off [6]int64) api.Read {
	var value [12]int64
	for n, axis := range a {
		value[n] = axis[0]*rate[0] + axis[1]*rate[1] + axis[2]*rate[2] + off[n]
	}
	return allThere(value)
}

// reads are readings of one rate, off in many ways, some that fit no rate, and some of which not all are There.
func reads(a axes) []api.Read {
	rate := api.Vec{-300, 45, 77}
	return []api.Read{
		reading(a, api.Vec{}, [6]int64{}),
		reading(a, rate, [6]int64{3, -2, 1, -3, 2, -1}),
		reading(a, rate, [6]int64{3, -2, 100, -3, 2, -1}),
		reading(a, rate, [6]int64{3, -2, 1, -300, 2, 150}),
		reading(a, rate, [6]int64{40, -60, 1, -300, 2, 150}),
		there(reading(a, rate, [6]int64{3, -2, 1, -3, 2, 90}), 0b111101),
		there(reading(a, rate, [6]int64{}), 0b010101),
		allThere([12]int64{1, 2, 3, 4, 5, 6, 7, 8, 9, 10, 11, 12}),
		allThere([12]int64{api.MaxRead, -api.MaxRead, api.MaxRead, -api.MaxRead, api.MaxRead, -api.MaxRead}),
		allThere([12]int64{most, lowest, most, lowest, most - 1, 0, 5}),
		{},
	}
}

// some is n of reads, from one of them on.
func some(a axes, from, n int) []api.Read {
	every := reads(a)
	var l []api.Read
	for k := range n {
		l = append(l, every[(from+k)%len(every)])
	}
	return l
}

// configs are configurations of axes of all kinds, with Eps and Rate of all kinds.
func configs() []api.Config {
	n := numbers()
	var l []api.Config
	for k, a := range append(may(), far) {
		l = append(l, known(a, 3, 4000), known(a, 0, 300), known(a, n[(7*k+2)%len(n)], n[(11*k+5)%len(n)]))
	}
	return l
}

// held is x, or the end of the room that it is beyond.
func held(x *big.Int) int64 {
	switch {
	case x.IsInt64():
		return x.Int64()
	case x.Sign() < 0:
		return lowest
	default:
		return most
	}
}

func sum(a, b int64) *big.Int { return new(big.Int).Add(big.NewInt(a), big.NewInt(b)) }

func less(a, b int64) *big.Int { return new(big.Int).Sub(big.NewInt(a), big.NewInt(b)) }

// half is the half of how far lo and hi are apart, to be rounded down or up.
func half(lo, hi, more int64) *big.Int {
	d := less(hi, lo)
	return d.Rsh(d.Add(d, big.NewInt(more)), 1)
}

// added is where the sum of a number of each is, axis by axis, held.
func added(a, b api.Box) api.Box {
	var both api.Box
	for axis := range both {
		both[axis] = of(held(sum(a[axis].Lo, b[axis].Lo)), held(sum(a[axis].Hi, b[axis].Hi)))
		if a[axis].Hi < a[axis].Lo || b[axis].Hi < b[axis].Lo {
			both[axis] = none
		}
	}
	return both
}

// boxOf is a reading's box.
func boxOf(c api.Config, alive [22]bool, r api.Read) api.Box {
	if b, is := hull.Of(c, alive, r); is {
		return b
	}
	return enclose.Whole(c)
}

// totalOf is P28.4's words.
func totalOf(base api.Box, c api.Config, alive [22]bool, l []api.Read) api.Box {
	for _, r := range l {
		base = added(base, boxOf(c, alive, r))
	}
	return base
}

// within is whether all of a is in b.
func within(a, b api.Box) bool {
	for axis := range a {
		if a[axis].Lo < b[axis].Lo || a[axis].Hi > b[axis].Hi {
			return false
		}
	}
	return true
}

// byHand and twoTold: x, y and z are told twice, the third time so that both can't be good; to the other one just so, otherwise.
var (
	byHand   = known(double, 3, 100)
	twoTold  = allThere([12]int64{10, 20, 30, 14, 26, 38})
	otherOne = allThere([12]int64{-10, -20, -30, -14, -26, -30})

	without2, without5, without25 = these([]int{2}), these([]int{5}), these([]int{2}, []int{5})
)

// The boxes of both readings, of who is alive.
var (
	told2, told5, told25    = api.Box{of(11, 13), of(23, 23), of(35, 41)}, api.Box{of(11, 13), of(23, 23), of(27, 33)}, api.Box{of(11, 13), of(23, 23), of(27, 41)}
	other2, other5, other25 = api.Box{of(-13, -11), of(-23, -23), of(-33, -27)}, api.Box{of(-13, -11), of(-23, -23), of(-33, -27)}, api.Box{of(-13, -11), of(-23, -23), of(-33, -27)}
)

// P28.1: from 0 to 0, and no readings: the chapter's example, too.
func TestP1New(t *testing.T) {
	a := angle.New()
	is(t, call("Base of New"), a.Base, cube(0, 0))
	is(t, call("how many readings New has"), len(a.Ring), 0)
	for _, c := range append(configs(), config.Usual(), api.Config{}) {
		for _, alive := range [][22]bool{only(0), all, these([]int{})} {
			is(t, call("Total of New", c, alive), angle.Total(angle.New(), c, alive), cube(0, 0))
			is(t, call("Rewind of New", c, alive), rewind(angle.New(), c, alive, 0), rewound{cube(0, 0), api.OK})
			is(t, call("Rewind of New", c, alive), rewind(angle.New(), c, alive, 1), rewound{api.Box{}, api.ErrArg})
		}
	}
}

// P28.2: by hand.
func TestP2AddByHand(t *testing.T) {
	a := api.Box{of(1, 2), of(-30, 40), of(500, 500)}
	for _, c := range []struct{ b, want api.Box }{
		{cube(0, 0), a},
		{cube(-1, 1), api.Box{of(0, 3), of(-31, 41), of(499, 501)}},
		{api.Box{of(10, 20), of(1, 2), of(-500, 7)}, api.Box{of(11, 22), of(-29, 42), of(0, 507)}},
		{api.Box{of(10, 20), none, of(-500, 7)}, api.Box{of(11, 22), none, of(0, 507)}},
		{api.Box{of(9, 4), of(1, 2), of(0, -1)}, api.Box{none, of(-29, 42), none}},
		{api.Box{of(most, most), of(lowest, most), of(lowest, lowest)}, api.Box{of(most, most), of(lowest, most), of(lowest+500, lowest+500)}},
		{api.Box{of(most-1, most-1), of(lowest+29, most-41), of(0, most-500)}, api.Box{of(most, most), of(lowest, most-1), of(500, most)}},
	} {
		is(t, call("Add", a, c.b), angle.Add(a, c.b), c.want)
		is(t, call("Add", c.b, a), angle.Add(c.b, a), c.want)
	}
}

// P28.2, of ends of all kinds.
func TestP2Add(t *testing.T) {
	l := ends()
	for i, a := range l {
		for k := i % 5; k < len(l); k += 5 {
			is(t, call("Add", a, l[k]), angle.Add(a, l[k]), added(a, l[k]))
		}
	}
}

// P28.3: by hand: up to eight there is room, and nothing is reckoned; the ninth lets the first one go, by who is alive then.
func TestP3PushByHand(t *testing.T) {
	a := angle.New()
	var l []api.Read
	for n := range 8 {
		r := []api.Read{twoTold, otherOne, {}}[n%3]
		l = append(l, r)
		a = angle.Push(a, byHand, without25, r)
		alike(t, call("Push", n), a, api.Angle{Ring: l})
	}
	a = angle.Push(a, byHand, without25, otherOne)
	alike(t, call("the ninth Push"), a, api.Angle{Base: told25, Ring: append(slices.Clone(l[1:]), otherOne)})
	a = angle.Push(a, byHand, without2, twoTold)
	alike(t, call("the tenth Push"), a, api.Angle{Base: api.Box{of(-2, 2), of(0, 0), of(-6, 14)}, Ring: append(slices.Clone(l[2:]), otherOne, twoTold)})
	a = angle.Push(a, byHand, without5, twoTold) // nothing is There in the one that goes
	alike(t, call("the eleventh Push"), a, api.Angle{Base: api.Box{of(-102, 102), of(-100, 100), of(-106, 114)}, Ring: append(slices.Clone(l[3:]), otherOne, twoTold, twoTold)})
	a = angle.Push(a, byHand, these(), twoTold) // no hypothesis is alive
	alike(t, call("the twelfth Push"), a, api.Angle{Base: api.Box{of(-202, 202), of(-200, 200), of(-206, 214)}, Ring: append(slices.Clone(l[4:]), otherOne, twoTold, twoTold, twoTold)})
	a = angle.Push(a, byHand, these([]int{}), twoTold) // what is told twice fits no rate: nobody is bad, and z is off
	alike(t, call("the thirteenth Push"), a, api.Angle{Base: api.Box{of(-215, 191), of(-223, 177), of(-239, 187)}, Ring: append(slices.Clone(l[5:]), otherOne, twoTold, twoTold, twoTold, twoTold)})
}

// P28.3, of all kinds of configurations, of who is alive, of readings, of bases and of how many readings there are.
func TestP3Push(t *testing.T) {
	l, bases := lives(), ends()
	for k, c := range configs() {
		for n := range 13 {
			for m := range 6 {
				at := 31*k + 7*n + 3*m
				alive, r := l[(5*at)%len(l)], reads(c.Axes)[(at+m)%11]
				a := api.Angle{Base: bases[(13*at)%len(bases)], Ring: some(c.Axes, at, n)}
				want := api.Angle{Base: a.Base, Ring: append(slices.Clone(a.Ring), r)}
				if n >= 8 { // just the first one goes, also where there were too many
					want.Base, want.Ring = added(a.Base, boxOf(c, alive, a.Ring[0])), want.Ring[1:]
				}
				alike(t, call("Push", a, c, alive, r), angle.Push(a, c, alive, r), want)
			}
		}
	}
}

// P28.3: over a long course the eight last ones stay, and Base is the sum of the boxes of all ahead of them, each of who was alive when it went.
func TestP3Course(t *testing.T) {
	l := lives()
	for k, c := range append(configs(), config.Usual()) {
		a := angle.New()
		var base api.Box
		every := some(c.Axes, k, 40)
		for n, r := range every {
			alive := l[(17*k+5*n)%len(l)]
			a = angle.Push(a, c, alive, r)
			if n >= 8 {
				base = added(base, boxOf(c, alive, every[n-8]))
			}
			alike(t, call("Push", c, k, n), a, api.Angle{Base: base, Ring: every[max(0, n-7) : n+1]})
		}
	}
}

// P28.3: what is answered is new, has rooms for just its readings, and shares none with what was handed in, nor with what was pushed upon the same angle.
func TestP3PushIsNew(t *testing.T) {
	c := config.Usual()
	for n := range 12 {
		room := some(cone, 3, 40)
		kept := slices.Clone(room)
		for _, end := range []int{n, n + 1, n + 9, 40} {
			a := api.Angle{Base: cube(-7, 8), Ring: room[:n:end]}
			got := angle.Push(a, c, all, twoTold)
			is(t, call("whether the room behind Push stays", n, end), slices.Equal(room, kept), true)
			is(t, call("Base of what was handed in", n, end), a.Base, cube(-7, 8))
			is(t, call("how many rooms there are", n, end), cap(got.Ring), len(got.Ring))
			first := angle.Push(got, c, all, twoTold)
			second := angle.Push(got, c, all, otherOne)
			is(t, call("what was pushed first", n, end), first.Ring[len(first.Ring)-1], twoTold)
			is(t, call("what was pushed then", n, end), second.Ring[len(second.Ring)-1], otherOne)
			whole := slices.Clone(got.Ring)
			for i := range room {
				room[i] = api.Read{}
			}
			is(t, call("whether the answer stays, when the list is changed", n, end), slices.Equal(got.Ring, whole), true)
			copy(room, kept)
			clear(got.Ring)
			is(t, call("whether the list stays, when the answer is changed", n, end), slices.Equal(room, kept), true)
			is(t, call("what was pushed first, when its angle was changed", n, end), slices.Equal(first.Ring[:len(first.Ring)-1], whole[len(whole)+1-len(first.Ring):]), true)
		}
	}
}

// P28.4: by hand: Base, and each reading, by who is alive now.
func TestP4TotalByHand(t *testing.T) {
	for _, c := range []struct {
		a     api.Angle
		alive [22]bool
		want  api.Box
	}{
		{api.Angle{}, without25, cube(0, 0)},
		{api.Angle{Base: cube(-4, 9)}, without25, cube(-4, 9)},
		{api.Angle{Ring: []api.Read{twoTold}}, without2, told2},
		{api.Angle{Ring: []api.Read{twoTold}}, without5, told5},
		{api.Angle{Ring: []api.Read{twoTold}}, without25, told25},
		{api.Angle{Ring: []api.Read{otherOne}}, without2, other2},
		{api.Angle{Ring: []api.Read{otherOne}}, without5, other5},
		{api.Angle{Ring: []api.Read{otherOne}}, without25, other25},
		{api.Angle{Ring: []api.Read{{}}}, without2, cube(-100, 100)},
		{api.Angle{Ring: []api.Read{twoTold}}, these(), cube(-100, 100)},
		{api.Angle{Ring: []api.Read{twoTold}}, these([]int{}), cube(-100, 100)}, // it fits no rate
		{api.Angle{Ring: []api.Read{twoTold, twoTold}}, without25, api.Box{of(22, 26), of(46, 46), of(54, 82)}},
		{api.Angle{Ring: []api.Read{twoTold, otherOne}}, without2, api.Box{of(-2, 2), of(0, 0), of(2, 14)}},
		{api.Angle{Ring: []api.Read{twoTold, {}, otherOne}}, without2, api.Box{of(-102, 102), of(-100, 100), of(-98, 114)}},
		{api.Angle{Base: cube(-4, 9), Ring: []api.Read{twoTold, otherOne}}, without2, api.Box{of(-6, 11), of(-4, 9), of(-2, 23)}},
		{api.Angle{Base: api.Box{of(1, 1), none, of(7, 6)}, Ring: []api.Read{twoTold}}, without2, api.Box{of(12, 14), none, none}},
		{api.Angle{Base: cube(1000, 2000), Ring: make([]api.Read, 8)}, all, cube(200, 2800)},
		{api.Angle{Base: cube(1000, 2000), Ring: make([]api.Read, 20)}, all, cube(-1000, 4000)},
	} {
		is(t, call("Total", c.a, c.alive), angle.Total(c.a, byHand, c.alive), c.want)
	}
	is(t, call("Total of no rate"), angle.Total(api.Angle{Base: cube(5, 6), Ring: make([]api.Read, 1)}, known(double, 3, -1), all), cube(1, 0))
	is(t, call("Total of no rate, and no reading"), angle.Total(api.Angle{Base: cube(5, 6)}, known(double, 3, -1), all), cube(5, 6))
}

// P28.4: the room behind the ring's end says nothing.
func TestP4TotalRoom(t *testing.T) {
	room := []api.Read{twoTold, otherOne, otherOne}
	is(t, call("Total"), angle.Total(api.Angle{Ring: room[:1]}, byHand, without2), told2)
	is(t, call("Total"), angle.Total(api.Angle{Ring: room[:0]}, byHand, without2), cube(0, 0))
}

// P28.4: one behind the other, from Base on: what is held there is held.
func TestP4TotalInOrder(t *testing.T) {
	c := known(double, 0, 1000)
	five, less5 := reading(double, api.Vec{5, 5, 5}, [6]int64{}), reading(double, api.Vec{-5, -5, -5}, [6]int64{})
	up, down := api.Angle{Base: cube(most-3, most-1), Ring: []api.Read{five, less5}}, api.Angle{Base: cube(lowest+1, lowest+3), Ring: []api.Read{less5, five}}
	is(t, call("Total", up), angle.Total(up, c, these([]int{})), cube(most-5, most-5))
	is(t, call("Total", down), angle.Total(down, c, these([]int{})), cube(lowest+5, lowest+5))
	slices.Reverse(up.Ring)
	slices.Reverse(down.Ring)
	is(t, call("Total", up), angle.Total(up, c, these([]int{})), cube(most-3, most-1))
	is(t, call("Total", down), angle.Total(down, c, these([]int{})), cube(lowest+1, lowest+3))
	empty := api.Angle{Base: cube(5, 3)}
	is(t, call("Total of an empty one", empty), angle.Total(empty, c, all), cube(5, 3))
}

// P28.4 and P28.6, of all kinds of configurations, of who is alive, of readings, of bases and of how many readings there are.
func TestP4P6(t *testing.T) {
	l, bases := lives(), ends()
	for k, c := range configs() {
		for n := range 13 {
			for m := range 5 {
				at := 29*k + 11*n + 3*m
				alive := l[(7*at)%len(l)]
				a := api.Angle{Base: bases[(17*at)%len(bases)], Ring: some(c.Axes, at+m, n)}
				is(t, call("Total", a, c, alive), angle.Total(a, c, alive), totalOf(a.Base, c, alive, a.Ring))
				for _, back := range []int{0, 1, n / 2, n - 1, n} {
					if back < 0 || back > n {
						continue
					}
					want := rewound{totalOf(a.Base, c, alive, a.Ring[:n-back]), api.OK}
					is(t, call("Rewind", a, c, alive, back), rewind(a, c, alive, back), want)
				}
				for _, no := range []int{-1, n + 1, n + 2, -n - 1, math.MinInt, math.MinInt + n, math.MaxInt, math.MaxInt - n} {
					is(t, call("Rewind", a, c, alive, no), rewind(a, c, alive, no), rewound{api.Box{}, api.ErrArg})
				}
			}
		}
	}
}

// P28.5: by hand: each axis's ends, and what is beyond one of them.
func TestP5HasByHand(t *testing.T) {
	b := api.Box{of(1, 5), of(-9, -9), of(-4, 40)}
	for _, c := range []struct {
		v    api.Vec
		want bool
	}{
		{api.Vec{3, -9, 0}, true},
		{api.Vec{1, -9, -4}, true},
		{api.Vec{5, -9, 40}, true},
		{api.Vec{0, -9, 0}, false},
		{api.Vec{6, -9, 0}, false},
		{api.Vec{3, -10, 0}, false},
		{api.Vec{3, -8, 0}, false},
		{api.Vec{3, -9, -5}, false},
		{api.Vec{3, -9, 41}, false},
		{api.Vec{-9, -4, 3}, false},
		{api.Vec{}, false},
	} {
		is(t, call("Has", b, c.v), angle.Has(b, c.v), c.want)
	}
	is(t, call("Has of an empty one"), angle.Has(cube(1, 0), api.Vec{1, 0, 1}), false)
	is(t, call("Has of one that is empty in one axis"), angle.Has(api.Box{of(0, 1), of(0, 1), of(1, 0)}, api.Vec{1, 1, 1}), false)
	is(t, call("Has of 0"), angle.Has(api.Box{}, api.Vec{}), true)
	is(t, call("Has of the whole room"), angle.Has(cube(lowest, most), api.Vec{lowest, most, 0}), true)
}

// P28.5, of ends of all kinds.
func TestP5Has(t *testing.T) {
	n := numbers()
	for i, b := range ends() {
		for h, x := range n {
			v := api.Vec{x, n[(h+5*i)%len(n)], n[(3*h+i)%len(n)]}
			want := true
			for axis := range v {
				want = want && b[axis].Lo <= v[axis] && v[axis] <= b[axis].Hi
			}
			is(t, call("Has", b, v), angle.Has(b, v), want)
		}
	}
}

// P28.6: by hand: each n that there is, and those that there are not.
func TestP6RewindByHand(t *testing.T) {
	a := api.Angle{Base: cube(-4, 9), Ring: []api.Read{twoTold, {}, otherOne}}
	for _, c := range []struct {
		n    int
		want rewound
	}{
		{0, rewound{api.Box{of(-106, 111), of(-104, 109), of(-102, 123)}, api.OK}},
		{1, rewound{api.Box{of(-93, 122), of(-81, 132), of(-69, 150)}, api.OK}},
		{2, rewound{api.Box{of(7, 22), of(19, 32), of(31, 50)}, api.OK}},
		{3, rewound{cube(-4, 9), api.OK}},
		{4, rewound{api.Box{}, api.ErrArg}},
		{-1, rewound{api.Box{}, api.ErrArg}},
		{8, rewound{api.Box{}, api.ErrArg}},
		{math.MinInt, rewound{api.Box{}, api.ErrArg}},
		{math.MaxInt, rewound{api.Box{}, api.ErrArg}},
	} {
		is(t, call("Rewind", c.n), rewind(a, byHand, without2, c.n), c.want)
	}
}

// P28.7: by hand: rounded up, of an empty one 0, and held.
func TestP7WidthByHand(t *testing.T) {
	for _, c := range []struct {
		b    api.Box
		want api.Vec
	}{
		{api.Box{}, api.Vec{}},
		{api.Box{of(1, 2), of(-3, 7), of(5, 5)}, api.Vec{1, 5, 0}},
		{api.Box{of(-3, 6), of(100, 103), of(-1000, -990)}, api.Vec{5, 2, 5}},
		{api.Box{none, of(9, -9), of(most, lowest)}, api.Vec{0, 0, 0}},
		{api.Box{of(lowest, most), of(0, most), of(lowest, 0)}, api.Vec{most, 1 << 62, 1 << 62}},
	} {
		is(t, call("Width", c.b), angle.Width(c.b), c.want)
	}
}

// P28.7, of ends of all kinds.
func TestP7Width(t *testing.T) {
	for _, b := range ends() {
		var want api.Vec
		for axis := range b {
			if b[axis].Lo <= b[axis].Hi {
				want[axis] = held(half(b[axis].Lo, b[axis].Hi, 1))
			}
		}
		is(t, call("Width", b), angle.Width(b), want)
	}
}

// P28.8: by hand: of even and odd turns both ends, and no turn.
func TestP8TurnsByHand(t *testing.T) {
	b := api.Box{of(170, 189), of(-181, -180), of(535, 545)} // of which the middles are 179, -181 and 540
	for _, c := range []struct {
		turn int64
		want api.Vec
	}{
		{360, api.Vec{179, 179, -180}},
		{361, api.Vec{179, 180, 179}},
		{359, api.Vec{179, 178, -178}},
		{1, api.Vec{}},
		{2, api.Vec{-1, -1, 0}},
		{3, api.Vec{-1, -1, 0}},
		{4, api.Vec{-1, -1, 0}},
		{most, api.Vec{179, -181, 540}},
		{0, api.Vec{}},
		{-1, api.Vec{}},
		{-360, api.Vec{}},
		{lowest, api.Vec{}},
	} {
		is(t, call("Turns", b, c.turn), angle.Turns(b, c.turn), c.want)
	}
}

// wrapped is the one of x and whole turns more or less that is nearest to 0, of two the one below it.
func wrapped(x *big.Int, turn int64) int64 {
	if turn < 1 {
		return 0
	}
	at := new(big.Int).Mod(x, big.NewInt(turn)).Int64()
	if at > (turn-1)/2 {
		return at - turn
	}
	return at
}

// P28.8, of ends and turns of all kinds.
func TestP8Turns(t *testing.T) {
	for _, b := range ends() {
		for _, turn := range append(numbers(), 5, 6, 7, 360, 3600, most-2) {
			var want api.Vec
			for axis := range b {
				mid := half(b[axis].Lo, b[axis].Hi, 0)
				want[axis] = wrapped(mid.Add(mid, big.NewInt(b[axis].Lo)), turn)
			}
			is(t, call("Turns", b, turn), angle.Turns(b, turn), want)
		}
	}
}

// fair makes readings of a rate that are off by at most Eps, but those of some gyros, which may read anything.
func fair(a axes, eps int64, rate api.Vec, bad []int, n int) api.Read {
	by := []int64{-eps, eps, 0, eps / 2, -eps / 3}
	var off [6]int64
	for i := range off {
		off[i] = by[(n*(i+1)+n/5+i*i)%len(by)]
	}
	r := reading(a, rate, off)
	for _, i := range bad {
		if n%2 == 0 {
			r.Value[i] = numbers()[(7*n+i)%len(numbers())]
		} else {
			r.Value[i] += int64(n*n) - 40*int64(n) + 11
		}
	}
	return r
}

// rates are rates near 0, and as great as they may be.
func rates() []api.Vec {
	return []api.Vec{{}, {1, 0, -1}, {1000, -2000, 300}, {api.MaxRate, -api.MaxRate, api.MaxRate}, {-7, 5, 800}}
}

// P28.9: over courses of rates of all kinds, whoever else is alive, and whoever does not read, the angle is in Total; and that of before where it is rewound.
func TestP9Angle(t *testing.T) {
	l, v := lives(), rates()
	for k, axes := range right() {
		for place, bad := range who {
			c := known(axes, []int64{0, 1, 3, 1 << 20}[(k+place)%4], api.MaxRate)
			a := angle.New()
			angles := []api.Vec{{}} // ahead of the first tick, and behind each one
			for n := range 20 {
				rate := v[(k+2*n+place)%len(v)]
				r := fair(axes, c.Eps, rate, bad, 13*k+7*n+place)
				if (k+n)%3 == 0 {
					r = there(r, 4095&^(1<<(n%6)))
				}
				alive, now := l[(19*k+5*n+place)%len(l)], l[(11*k+3*n+7*place)%len(l)]
				alive[place], now[place] = true, true
				a = angle.Push(a, c, alive, r)
				last := angles[n]
				angles = append(angles, api.Vec{last[0] + rate[0], last[1] + rate[1], last[2] + rate[2]})
				is(t, call("whether Total has the angle", a, c, now, angles[n+1]), angle.Has(angle.Total(a, c, now), angles[n+1]), true)
				for back := n % 3; back <= len(a.Ring); back += 3 {
					got := rewind(a, c, now, back)
					is(t, call("whether Rewind has the angle", a, c, now, back), got.err == api.OK && angle.Has(got.b, angles[n+1-back]), true)
				}
			}
		}
	}
}

// P28.10: of those who are alive fewer: Total is not greater, as long as each reading has a box.
func TestP10Fewer(t *testing.T) {
	l := lives()
	compared := 0
	for k, c := range append(configs(), config.Usual()) {
		for n := range 9 {
			for m := range 40 {
				at := 23*k + 7*n + 5*m
				alive := l[(3*at)%len(l)]
				fewer := alive
				for place := range fewer {
					fewer[place] = fewer[place] && (at+place*place)%(2+m%4) != 0
				}
				a := api.Angle{Base: cube(-int64(n), int64(m)), Ring: some(c.Axes, at, n)}
				if slices.ContainsFunc(a.Ring, func(r api.Read) bool { _, is := hull.Of(c, fewer, r); return !is }) {
					continue
				}
				compared++
				is(t, call("whether Total is not greater", a, c, alive, fewer), within(angle.Total(a, c, fewer), angle.Total(a, c, alive)), true)
			}
		}
	}
	is(t, call("whether some were compared", compared), compared > 1000, true)
}

// P28.10: each one that is refuted leaves it as it is, or less; where a reading has no box any more it is greater again.
func TestP10ByHand(t *testing.T) {
	a := api.Angle{Ring: []api.Read{twoTold, otherOne, twoTold}}
	is(t, call("Total of both"), angle.Total(a, byHand, without25), api.Box{of(9, 15), of(23, 23), of(21, 55)})
	is(t, call("Total of one"), angle.Total(a, byHand, without2), api.Box{of(9, 15), of(23, 23), of(37, 55)})
	is(t, call("Total of the other one"), angle.Total(a, byHand, without5), api.Box{of(9, 15), of(23, 23), of(21, 39)})
	is(t, call("Total of none"), angle.Total(a, byHand, these()), cube(-300, 300))
}

// P28.11: rewound by nothing it is Total; rewound it is Total of the angle of then, whoever is alive now, as long as what went by then was reckoned by the same.
func TestP11Rewound(t *testing.T) {
	l := lives()
	for k, c := range append(configs(), config.Usual()) {
		same := l[(41*k)%len(l)]
		a := angle.New()
		was := []api.Angle{a}
		for n := range 20 {
			a = angle.Push(a, c, same, reads(c.Axes)[(k+3*n)%11])
			was = append(was, a)
			is(t, call("Rewind by nothing", a, c, same), rewind(a, c, same, 0), rewound{angle.Total(a, c, same), api.OK})
			for back := range len(a.Ring) + 1 {
				then := was[len(was)-1-back]
				is(t, call("Rewind", a, c, same, back), rewind(a, c, same, back), rewound{angle.Total(then, c, same), api.OK})
				if n >= 8 {
					continue
				}
				now := l[(7*k+n+5*back)%len(l)] // nothing went yet, so anybody may be alive
				is(t, call("Rewind", a, c, now, back), rewind(a, c, now, back), rewound{angle.Total(then, c, now), api.OK})
			}
		}
	}
}

// What a gyro's drift makes of the angle: it is in Total all the time, and reckoned again that is less when the gyro is excluded.
func TestOfReadings(t *testing.T) {
	c, rate := config.Usual(), api.Vec{700, -1200, 50}
	c.Eps = 40
	for gyro := range 6 {
		a, b := angle.New(), bank.New()
		var v api.Vec
		excluded := 0
		for tick := range int64(20) {
			var off [6]int64
			off[gyro] = 100 * tick
			r := reading(cone, rate, off)
			b = bank.Update(b, c, r)
			alive := hypo.Alive(b, 0)
			a = angle.Push(a, c, alive, r)
			v = api.Vec{v[0] + rate[0], v[1] + rate[1], v[2] + rate[2]}
			total := angle.Total(a, c, alive)
			is(t, call("whether Total has the angle", gyro, tick), angle.Has(total, v), true)
			again, before := angle.Width(total), angle.Width(angle.Total(a, c, all))
			turns := angle.Turns(total, 3600)
			for axis := range 3 {
				off := wrapped(less(v[axis], turns[axis]), 3600)
				is(t, call("whether it is as far off as it may be at most", gyro, tick, axis), max(off, -off) <= again[axis], true)
				is(t, call("whether it is not greater", gyro, tick, axis), again[axis] <= before[axis], true)
			}
			if excluded == 0 && hypo.Excluded(alive) != 0 {
				is(t, call("whether it is less", gyro, tick), again[0] < before[0] && again[1] < before[1] && again[2] < before[2], true)
			}
			excluded = hypo.Excluded(alive)
		}
		is(t, call("Excluded", gyro), excluded, 1<<gyro)
	}
}

// Rules: the same calls again have the same answers, and what they are given stays, also behind a list's end.
func TestKept(t *testing.T) {
	c, alive := config.Usual(), without25
	room := some(cone, 0, 12)
	kept, keptConfig, keptAlive := slices.Clone(room), c, alive
	for n := range 11 {
		a := api.Angle{Base: cube(-9, 40), Ring: room[:n]}
		pushed, total, back := angle.Push(a, c, alive, twoTold), angle.Total(a, c, alive), rewind(a, c, alive, n/2)
		alike(t, call("Push again", n), angle.Push(a, c, alive, twoTold), pushed)
		is(t, call("Total again", n), angle.Total(a, c, alive), total)
		is(t, call("Rewind again", n), rewind(a, c, alive, n/2), back)
		rewind(a, c, alive, n+1)
		alike(t, call("the angle", n), a, api.Angle{Base: cube(-9, 40), Ring: kept[:n]})
		is(t, call("whether the readings stay", n), slices.Equal(room, kept), true)
	}
	is(t, call("the configuration"), c, keptConfig)
	is(t, call("who is alive"), alive, keptAlive)
	a, b := cube(1, 2), cube(3, 4)
	sum := angle.Add(a, b)
	is(t, call("Add again"), angle.Add(a, b), sum)
	is(t, call("the first box"), a, cube(1, 2))
	is(t, call("the second box"), b, cube(3, 4))
}

// Rules: nil and empty rings are the same.
func TestNil(t *testing.T) {
	c := config.Usual()
	no, nothing := api.Angle{Base: cube(1, 2)}, api.Angle{Base: cube(1, 2), Ring: []api.Read{}}
	alike(t, call("Push"), angle.Push(nothing, c, all, twoTold), angle.Push(no, c, all, twoTold))
	is(t, call("Total"), angle.Total(nothing, c, all), angle.Total(no, c, all))
	is(t, call("Rewind"), rewind(nothing, c, all, 0), rewound{cube(1, 2), api.OK})
	is(t, call("Rewind"), rewind(nothing, c, all, 1), rewind(no, c, all, 1))
}
